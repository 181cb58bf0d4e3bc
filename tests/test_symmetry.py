"""Tables that are turned, reordered or multiplied: the answers go along."""

import random
import unittest

from crosslift.certificates import lower_bound, optimal_certificate
from crosslift.components import components, find_contradiction, is_contradiction
from crosslift.edits import apply_edits
from crosslift.queries import blocking_cells, forced_cells, lockable_lines
from crosslift.solver import minimum_cost, minimum_steps, optimal_ranges
from tests.helpers import all_costs, outcome, random_cases


def transposed(rows):
    return tuple(zip(*rows))


def multiplied(rows, by):
    return tuple(tuple(None if entry is None else entry * by for entry in row) for row in rows)


def scaled_costs(costs, by):
    return tuple(None if cost is None else cost * by for cost in costs)


def ranges_of_lines(table, goal):
    """The optimal range of each line, from those of the first lines and one best solution."""
    rows = len(table[0])
    shifts = minimum_cost(table, goal)[1]
    found = {}
    for group, (low, high) in zip(components(table, goal), optimal_ranges(table, goal)):
        first = group[0]
        for line in group:
            if (line < rows) == (first < rows):
                found[line] = (low + shifts[line] - shifts[first], high + shifts[line] - shifts[first])
            else:
                found[line] = (shifts[line] + shifts[first] - high, shifts[line] + shifts[first] - low)
    return found


class Symmetry(unittest.TestCase):
    def compare(self, case, other, move_line, move_place):
        """The answers to the other case are those to this one, with lines and places moved."""
        with self.subTest(case=case, other=other):
            self.compare_reachability(case, other, move_line, move_place)
            found = minimum_cost(*case)
            if found is None:
                self.assertIsNone(minimum_cost(*other))
                for function in (optimal_ranges, forced_cells, lockable_lines, optimal_certificate):
                    self.assertEqual(outcome(function, *other), ("NoSolution",))
            else:
                self.assertEqual(found[0], minimum_cost(*other)[0])
                self.compare_solutions(case, other, move_line, move_place)

    def compare_reachability(self, case, other, move_line, move_place):
        self.assertEqual(
            sorted(sorted(map(move_line, group)) for group in components(*case)), components(*other)
        )
        self.assertEqual(sorted(map(move_place, blocking_cells(*case))), blocking_cells(*other))
        self.assertEqual(minimum_steps(*case), minimum_steps(*other))
        path = find_contradiction(*case)
        self.assertEqual(path is None, find_contradiction(*other) is None)
        if path is not None:
            self.assertIs(is_contradiction(*other, list(map(move_line, path))), True)

    def compare_solutions(self, case, other, move_line, move_place):
        self.assertEqual(sorted(map(move_line, lockable_lines(*case))), lockable_lines(*other))
        forced = [(*move_place((row, column)), value) for row, column, value in forced_cells(*case)]
        self.assertEqual(sorted(forced), forced_cells(*other))
        ranges = {move_line(line): pair for line, pair in ranges_of_lines(*case).items()}
        self.assertEqual(ranges, ranges_of_lines(*other))
        self.assertEqual(
            optimal_ranges(*other), [ranges[group[0]] for group in components(*other)]
        )
        weights = optimal_certificate(*case)
        moved = [0] * len(weights)
        for line, weight in enumerate(weights):
            moved[move_line(line)] = weight
        self.assertEqual(lower_bound(*other, moved), minimum_cost(*case)[0])

    def test_transposed(self):
        for table, goal in random_cases(random.Random(71), 200):
            rows, columns = len(table[0]), len(table[0][0])
            other = (transposed(table[0]), table[2], table[1])
            self.compare(
                (table, goal), (other, transposed(goal)),
                lambda line: line + columns if line < rows else line - rows,
                lambda place: place[::-1],
            )

    def test_reordered_rows(self):
        source = random.Random(72)
        for table, goal in random_cases(random.Random(73), 200):
            rows = len(table[0])
            order = source.sample(range(rows), rows)
            place_of = {row: at for at, row in enumerate(order)}
            other = (tuple(table[0][row] for row in order), tuple(table[1][row] for row in order), table[2])
            self.compare(
                (table, goal), (other, tuple(goal[row] for row in order)),
                lambda line: place_of.get(line, line),
                lambda place: (place_of[place[0]], place[1]),
            )

    def test_reordered_columns(self):
        source = random.Random(74)
        for table, goal in random_cases(random.Random(75), 200):
            rows, columns = len(table[0]), len(table[0][0])
            order = source.sample(range(columns), columns)
            place_of = {column: at for at, column in enumerate(order)}

            def reordered(entries):
                return tuple(entries[column] for column in order)

            other = (tuple(map(reordered, table[0])), table[1], reordered(table[2]))
            self.compare(
                (table, goal), (other, tuple(map(reordered, goal))),
                lambda line: line if line < rows else rows + place_of[line - rows],
                lambda place: (place[0], place_of[place[1]]),
            )

    def test_a_number_added_to_cells_and_goal(self):
        for table, goal in random_cases(random.Random(76), 100):
            other = tuple(tuple(value + 1000 for value in row) for row in table[0])
            moved = tuple(
                tuple(None if value is None else value + 1000 for value in row) for row in goal
            )
            pair = ((other, *table[1:]), moved)
            self.assertEqual((minimum_cost(table, goal) or [None])[0], (minimum_cost(*pair) or [None])[0])
            self.assertEqual(blocking_cells(table, goal), blocking_cells(*pair))
            self.assertEqual(components(table, goal), components(*pair))

    def test_numbers_multiplied(self):
        for by in (2, 7, 10000, -1):
            for table, goal in random_cases(random.Random(77), 120):
                self.compare_multiples((table, goal), by)

    def compare_multiples(self, case, by):
        table, goal = case
        other = ((multiplied(table[0], by), *table[1:]), multiplied(goal, by))
        self.assertEqual(components(*case), components(*other))
        self.assertEqual(blocking_cells(*case), blocking_cells(*other))
        found = minimum_cost(*case)
        if found is None:
            self.assertIsNone(minimum_cost(*other))
            self.assertIsNone(minimum_steps(*other))
            return
        self.assertEqual(minimum_cost(*other)[0], found[0] * abs(by))
        self.assertEqual(minimum_steps(*other), minimum_steps(*case) * abs(by))
        self.assertEqual(
            optimal_ranges(*other), [tuple(sorted((low * by, high * by))) for low, high in optimal_ranges(*case)]
        )
        self.assertEqual(
            forced_cells(*other), [(row, column, value * by) for row, column, value in forced_cells(*case)]
        )
        self.assertEqual(lockable_lines(*other), lockable_lines(*case))
        weights = optimal_certificate(*case)
        self.assertEqual(lower_bound(*other, weights), found[0] * by)

    def test_costs_multiplied(self):
        for table, goal in random_cases(random.Random(78), 200):
            highest = max([cost for cost in all_costs(table) if cost is not None], default=1)
            by = max(1, 99 // highest)
            small = (table[0], *[self.lowered(costs) for costs in table[1:]])
            for base, times in ((table, by), (small, 9), (small, 11)):
                other = (table[0], scaled_costs(base[1], times), scaled_costs(base[2], times))
                self.compare_costs(base, other, goal, times)

    @staticmethod
    def lowered(costs):
        return tuple(None if cost is None else cost // 12 + 1 for cost in costs)

    def compare_costs(self, table, other, goal, by):
        self.assertEqual(components(table, goal), components(other, goal))
        self.assertEqual(blocking_cells(table, goal), blocking_cells(other, goal))
        self.assertEqual(minimum_steps(table, goal), minimum_steps(other, goal))
        found = minimum_cost(table, goal)
        if found is None:
            self.assertIsNone(minimum_cost(other, goal))
            return
        self.assertEqual(minimum_cost(other, goal)[0], found[0] * by)
        for function in (optimal_ranges, forced_cells, lockable_lines):
            self.assertEqual(function(table, goal), function(other, goal))
        weights = [weight * by for weight in optimal_certificate(table, goal)]
        self.assertEqual(lower_bound(other, goal, weights), found[0] * by)

    def test_edits_of_a_transposed_table(self):
        source = random.Random(79)
        for table, _ in random_cases(random.Random(80), 200):
            rows, columns = len(table[0]), len(table[0][0])
            other = (transposed(table[0]), table[2], table[1])
            edits = [(source.randrange(rows + columns), source.randint(-9, 9)) for _ in range(5)]
            moved = [(line + columns if line < rows else line - rows, delta) for line, delta in edits]
            found = outcome(apply_edits, table, edits)
            if found[0] == "returned":
                found = ("returned", (transposed(found[1][0]), found[1][1]))
            self.assertEqual(outcome(apply_edits, other, moved), found)
