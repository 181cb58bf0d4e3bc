import random
import unittest

from crosslift.queries import blocking_cells, forced_cells, lockable_lines
from crosslift.solver import minimum_cost
from tests.helpers import (
    LIMIT, SMALL, SQUARE, TABLE, all_costs, another_solution, outcome, random_cases, shifted, spoilt,
)

UNREACHABLE = ((1, 0), (0, 0))


def places(goal, specified):
    """The places of the specified cells, or of the open ones."""
    return [
        (row, column)
        for row, entries in enumerate(goal)
        for column, entry in enumerate(entries)
        if (entry is not None) == specified
    ]


def with_entry(goal, place, value):
    rows = [list(entries) for entries in goal]
    rows[place[0]][place[1]] = value
    return tuple(tuple(entries) for entries in rows)


def with_cost(table, line, cost):
    costs = all_costs(table)
    costs[line] = cost
    rows = len(table[0])
    return table[0], tuple(costs[:rows]), tuple(costs[rows:])


def forced_by_trial(table, goal):
    """An open cell is forced if no other final value than that of one solution can be reached."""
    found = minimum_cost(table, goal)
    if found is None:
        return ("NoSolution",)
    final = shifted(table, found[1])
    forced = []
    for row, column in places(goal, False):
        value = final[row][column]
        if not any(
            minimum_cost(table, with_entry(goal, (row, column), value + more)) is not None
            for more in (-3, -1, 1, 2)
        ):
            forced.append((row, column, value))
    return ("returned", forced)


def lockable_by_trial(table, goal):
    found = minimum_cost(table, goal)
    if found is None:
        return ("NoSolution",)
    lockable = []
    for line, cost in enumerate(all_costs(table)):
        if cost is not None:
            locked = minimum_cost(with_cost(table, line, None), goal)
            if locked is not None and locked[0] == found[0]:
                lockable.append(line)
    return ("returned", lockable)


def blocking_by_trial(table, goal):
    if minimum_cost(table, goal) is not None:
        return ("returned", [])
    return ("returned", [
        place for place in places(goal, True)
        if minimum_cost(table, with_entry(goal, place, None)) is not None
    ])


class Query(unittest.TestCase):
    def check(self, function, table, goal, expected):
        with self.subTest(table=table, goal=goal):
            found = outcome(function, table, goal)
            self.assertEqual(found, expected)
            if found[0] == "returned":
                self.assertEqual({type(found[1]), *map(type, found[1])} - {int, tuple}, {list})
                kept = list(found[1])
                found[1].append(None)
                self.assertEqual(function(table, goal), kept)

    def check_cases(self, function, by_trial, cases, kinds):
        """At least fifty cases each of an exception, an empty list and a list with items."""
        counts = dict.fromkeys(kinds, 0)
        for table, goal in cases:
            expected = by_trial(table, goal)
            counts[expected[0] if expected[0] != "returned" else bool(expected[1])] += 1
            self.check(function, table, goal, expected)
        self.assertGreater(min(counts.values()), 50)


class ForcedCells(Query):
    def returns(self, table, goal, expected):
        self.check(forced_cells, table, goal, ("returned", expected))

    def test_within_a_component(self):
        self.returns(SQUARE, ((1, 1), (0, None)), [(1, 1, 0)])
        self.returns(SQUARE, ((None, 5), (2, 3)), [(0, 0, 4)])
        self.returns(SQUARE, ((5, None), (None, 2)), [])
        self.returns(SMALL, ((None,),), [])
        self.returns((((7, 1), (2, 3)), (1, 1), (1, 1)), ((8, None), (6, 9)), [(0, 1, 4)])

    def test_nothing_open(self):
        self.returns(SQUARE, ((1, 2), (3, 4)), [])
        self.returns(SMALL, ((4,),), [])

    def test_locked_lines_alone(self):
        table = (((1, 2), (3, 4)), (None, 5), (None, 6))
        self.returns(table, ((None, None), (None, None)), [(0, 0, 1)])
        locked = (((1, 2), (3, 4)), (None, None), (None, None))
        self.returns(locked, ((None, None), (None, None)), [(0, 0, 1), (0, 1, 2), (1, 0, 3), (1, 1, 4)])
        self.returns(locked, ((None, 2), (None, None)), [(0, 0, 1), (1, 0, 3), (1, 1, 4)])

    def test_across_components_with_locked_lines(self):
        table = (((0, 0), (0, 0)), (None, 5), (4, None))
        self.returns(table, ((3, None), (None, 4)), [(0, 1, 0), (1, 0, 7)])
        self.returns(TABLE, ((3, None), (None, 4)), [])
        table = (((0, 0, 0), (0, 0, 0)), (None, 5), (4, None, 8))
        self.returns(table, ((3, None, None), (None, 4, None)), [(0, 1, 0), (1, 0, 7)])

    def test_a_locked_line_beside_a_free_component(self):
        table = (((0, 0), (0, 0)), (None, 5), (4, 4))
        self.returns(table, ((3, None), (None, 4)), [])
        self.returns(table, ((3, None), (1, None)), [])

    def test_values_beyond_the_range(self):
        table = (((LIMIT, 0), (0, 0)), (1, 1), (1, 1))
        self.returns(table, ((None, LIMIT), (LIMIT, 0)), [(0, 0, 3 * LIMIT)])

    def test_unreachable(self):
        self.check(forced_cells, SQUARE, UNREACHABLE, ("NoSolution",))
        table = (((0, 0),), (None,), (None, 1))
        self.check(forced_cells, table, ((1, None),), ("NoSolution",))

    def test_against_a_trial(self):
        cases = random_cases(random.Random(31), 700, 5)
        self.check_cases(forced_cells, forced_by_trial, cases, ("NoSolution", True, False))

    def test_over_several_solutions(self):
        """What is forced is the same in all of them; what is not differs in some."""
        source = random.Random(32)
        for table, goal in random_cases(source, 300):
            found = minimum_cost(table, goal)
            if found is None:
                continue
            seen = {place: set() for place in places(goal, False)}
            for _ in range(6):
                final = shifted(table, another_solution(source, table, goal, found[1]))
                for row, column in seen:
                    seen[row, column].add(final[row][column])
            expected = [(*place, *values) for place, values in seen.items() if len(values) == 1]
            self.returns(table, goal, expected)


class LockableLines(Query):
    def returns(self, table, goal, expected):
        self.check(lockable_lines, table, goal, ("returned", expected))

    def test_lines(self):
        self.returns(SMALL, ((4,),), [0, 1])
        self.returns((((0,),), (3,), (2,)), ((4,),), [0])
        self.returns((((0,),), (2,), (3,)), ((4,),), [1])
        self.returns(SMALL, ((0,),), [0, 1])
        self.returns(SMALL, ((None,),), [0, 1])

    def test_locked_lines_are_left_out(self):
        self.returns(TABLE, TABLE[0], [0, 1, 2])
        self.returns((((0,),), (3,), (None,)), ((4,),), [])
        self.returns((((0,),), (3,), (None,)), ((0,),), [0])
        self.returns((((0,),), (None,), (None,)), ((0,),), [])

    def test_each_on_its_own(self):
        self.returns((((0, 0),), (2,), (1, 1)), ((4, 4),), [0, 1, 2])
        self.returns((((0, 0),), (2,), (1, 1)), ((4, 7),), [0, 1])
        self.returns((((0, 0),), (1,), (1, 1)), ((4, 7),), [1])
        self.returns((((0, 0),), (3,), (1, 1)), ((4, 7),), [0])

    def test_lines_that_stand_still_in_some_best_solution_each(self):
        self.returns(SQUARE, ((5, None), (None, -2)), [0, 1, 2, 3])

    def test_unreachable(self):
        self.check(lockable_lines, SQUARE, UNREACHABLE, ("NoSolution",))
        self.check(lockable_lines, (((0,),), (None,), (None,)), ((1,),), ("NoSolution",))

    def test_against_a_trial(self):
        cases = random_cases(random.Random(33), 700)
        self.check_cases(lockable_lines, lockable_by_trial, cases, ("NoSolution", True, False))


class BlockingCells(Query):
    def returns(self, table, goal, expected):
        self.check(blocking_cells, table, goal, ("returned", expected))

    def test_a_cycle(self):
        self.returns(SQUARE, UNREACHABLE, [(0, 0), (0, 1), (1, 0), (1, 1)])
        table = (((0, 0, 0), (0, 0, 0)), (1, 1), (1, 1, 1))
        self.returns(table, ((1, 0, 0), (0, 0, 0)), [(0, 0), (1, 0)])
        self.returns(table, ((1, 0, None), (0, 0, 5)), [(0, 0), (0, 1), (1, 0), (1, 1)])

    def test_locked_lines(self):
        table = (((0, 0),), (None,), (None, 1))
        self.returns(table, ((1, 0),), [(0, 0)])
        self.returns((((0, 0),), (3,), (None, None)), ((1, 2),), [(0, 0), (0, 1)])

    def test_two_faults_that_no_single_cell_explains(self):
        table = (((0, 0),), (None,), (None, None))
        self.returns(table, ((1, 1),), [])
        self.returns(table, ((1, None),), [(0, 0)])

    def test_reachable(self):
        self.returns(SQUARE, ((1, 2), (3, 4)), [])
        self.returns(SQUARE, ((None, None), (None, None)), [])
        self.returns(SMALL, ((4,),), [])

    def test_against_a_trial(self):
        source = random.Random(34)
        cases = random_cases(source, 500, 5)
        cases += [(table, spoilt(source, goal)) for table, goal in random_cases(source, 300, 4)]
        self.check_cases(blocking_cells, blocking_by_trial, cases, (True, False))
