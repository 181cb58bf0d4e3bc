import itertools
import random
import unittest

from crosslift.components import components
from crosslift.solver import minimum_cost, minimum_steps, optimal_ranges
from tests.helpers import (
    LIMIT, SMALL, SQUARE, TABLE, all_costs, best_cost, cost_of, outcome, pinned_cost, random_cases,
    reaches, union_of_lines,
)

TRIAL = range(-4, 5)


def at_cost_one(table):
    """The table with every cost 1; what is locked stays so."""
    return (
        table[0],
        tuple(cost and 1 for cost in table[1]),
        tuple(cost and 1 for cost in table[2]),
    )


def all_solutions(table, goal):
    """All shifts from -4 to 4 that reach the goal."""
    free = [TRIAL if cost is not None else (0,) for cost in all_costs(table)]
    rows = len(table[0])
    specified = [
        (row, rows + column, entry - table[0][row][column])
        for row, entries in enumerate(goal)
        for column, entry in enumerate(entries)
        if entry is not None
    ]
    return [
        shifts for shifts in itertools.product(*free)
        if all(shifts[row] + shifts[column] == gap for row, column, gap in specified)
    ]


class SmallTables(unittest.TestCase):
    """Gaps so small that every solution of minimum cost lies within the trial."""

    def check(self, table, goal):
        solutions = all_solutions(table, goal)
        with self.subTest(table=table, goal=goal):
            if not solutions:
                self.assertIsNone(minimum_cost(table, goal))
                self.assertIsNone(minimum_steps(table, goal))
                self.assertEqual(outcome(optimal_ranges, table, goal), ("NoSolution",))
                return False
            best = min(cost_of(table, shifts) for shifts in solutions)
            cost, shifts = minimum_cost(table, goal)
            self.assertEqual(cost, best)
            self.assertTrue(reaches(table, goal, shifts))
            self.assertEqual(cost_of(table, shifts), best)
            plain = at_cost_one(table)
            self.assertEqual(
                minimum_steps(table, goal), min(cost_of(plain, shifts) for shifts in solutions)
            )
            cheap = [shifts for shifts in solutions if cost_of(table, shifts) == best]
            ranges = []
            for group in union_of_lines(table, goal):
                found = [shifts[group[0]] for shifts in cheap]
                ranges.append((min(found), max(found)))
            self.assertEqual(optimal_ranges(table, goal), ranges)
            return True

    def test_against_a_trial_of_all_shifts(self):
        source = random.Random(8)
        counts = {True: 0, False: 0}
        for rows, columns, largest, times in (
            (1, 1, 4, 60), (1, 2, 2, 80), (2, 1, 2, 80), (2, 2, 1, 160),
        ):
            for _ in range(times):
                cells = self.random_rows(source, rows, columns, (-2, 0, 5))
                gaps = self.random_rows(source, rows, columns, (None, *range(-largest, largest + 1)))
                goal = tuple(
                    tuple(None if gap is None else cell + gap for cell, gap in zip(*pair))
                    for pair in zip(cells, gaps)
                )
                costs = self.random_rows(source, 1, rows + columns, (None, 1, 2, 3, 3, 50, 99))[0]
                counts[self.check((cells, costs[:rows], costs[rows:]), goal)] += 1
        self.assertGreater(min(counts.values()), 30)

    @staticmethod
    def random_rows(source, rows, columns, values):
        return tuple(tuple(source.choice(values) for _ in range(columns)) for _ in range(rows))


class LargerTables(unittest.TestCase):
    def check(self, table, goal):
        groups = union_of_lines(table, goal)
        bests = [best_cost(table, goal, group) for group in groups]
        with self.subTest(table=table, goal=goal):
            if None in bests:
                self.assertIsNone(minimum_cost(table, goal))
                self.assertIsNone(minimum_steps(table, goal))
                self.assertEqual(outcome(optimal_ranges, table, goal), ("NoSolution",))
                return False
            cost, shifts = minimum_cost(table, goal)
            self.assertEqual(cost, sum(bests))
            self.assertEqual([type(cost), type(shifts)], [int, list])
            self.assertEqual(len(shifts), len(all_costs(table)))
            self.assertTrue(reaches(table, goal, shifts))
            self.assertEqual(cost_of(table, shifts), cost)
            plain = at_cost_one(table)
            self.assertEqual(
                minimum_steps(table, goal), sum(best_cost(plain, goal, group) for group in groups)
            )
            self.check_ranges(table, goal, groups, bests)
            return True

    def check_ranges(self, table, goal, groups, bests):
        ranges = optimal_ranges(table, goal)
        self.assertEqual(len(ranges), len(groups))
        for (low, high), group, best in zip(ranges, groups, bests):
            self.assertLessEqual(low, high)
            for shift in {low, (low + high) // 2, high}:
                self.assertEqual(pinned_cost(table, goal, group, group[0], shift), best)
            for shift in (low - 1, high + 1):
                self.assertNotEqual(pinned_cost(table, goal, group, group[0], shift), best)

    def test_random_tables(self):
        counts = {True: 0, False: 0}
        for table, goal in random_cases(random.Random(9), 500):
            counts[self.check(table, goal)] += 1
        self.assertGreater(min(counts.values()), 50)

    def test_full_goals_of_the_largest_tables(self):
        source = random.Random(10)
        for _ in range(20):
            shifts = [source.randint(-LIMIT // 2, LIMIT // 2) for _ in range(14)]
            goal = tuple(tuple(shifts[row] + shifts[7 + column] for column in range(7)) for row in range(7))
            table = (((0,) * 7,) * 7, tuple(source.randint(1, 99) for _ in range(7)), (99,) * 7)
            self.assertTrue(self.check(table, goal))

    def test_gaps_beyond_the_range_of_the_cells(self):
        table = (((-LIMIT, LIMIT),), (7,), (99, 98))
        self.assertTrue(self.check(table, ((LIMIT, -LIMIT),)))
        self.assertTrue(self.check((((-LIMIT,),), (99,), (None,)), ((LIMIT,),)))
        self.assertEqual(minimum_cost((((-LIMIT,),), (99,), (None,)), ((LIMIT,),)), (198 * LIMIT, [2 * LIMIT, 0]))


class Answers(unittest.TestCase):
    def test_nothing_specified(self):
        goal = ((None, None), (None, None))
        self.assertEqual(minimum_cost(TABLE, goal), (0, [0, 0, 0, 0]))
        self.assertEqual(minimum_steps(TABLE, goal), 0)
        self.assertEqual(optimal_ranges(TABLE, goal), [(0, 0)] * 4)

    def test_reached_already(self):
        self.assertEqual(minimum_cost(TABLE, TABLE[0]), (0, [0, 0, 0, 0]))
        self.assertEqual(minimum_steps(TABLE, TABLE[0]), 0)
        self.assertEqual(optimal_ranges(TABLE, TABLE[0]), [(0, 0)])

    def test_cheaper_line_moves(self):
        self.assertEqual(minimum_cost((((0,),), (3,), (2,)), ((4,),)), (8, [0, 4]))
        self.assertEqual(minimum_cost((((0,),), (2,), (3,)), ((4,),)), (8, [4, 0]))
        self.assertEqual(minimum_cost((((0,),), (99,), (None,)), ((-4,),)), (396, [-4, 0]))
        self.assertEqual(minimum_cost((((0,),), (None,), (99,)), ((-4,),)), (396, [0, -4]))
        self.assertEqual(minimum_cost((((0, 0),), (3,), (2, 2)), ((4, 4),)), (12, [4, 0, 0]))

    def test_steps_do_not_look_at_the_costs(self):
        table = (((0, 0),), (99,), (1, 1))
        self.assertEqual(minimum_cost(table, ((4, 4),)), (8, [0, 4, 4]))
        self.assertEqual(minimum_steps(table, ((4, 4),)), 4)

    def test_steps_keep_the_locks(self):
        self.assertEqual(minimum_steps((((0, 0),), (None,), (5, 5)), ((4, 4),)), 8)
        self.assertIsNone(minimum_steps((((0,),), (None,), (None,)), ((4,),)))

    def test_ranges(self):
        self.assertEqual(optimal_ranges(SMALL, ((-4,),)), [(-4, 0)])
        self.assertEqual(optimal_ranges((((0,),), (3,), (2,)), ((4,),)), [(0, 0)])
        self.assertEqual(optimal_ranges((((0,),), (2,), (3,)), ((4,),)), [(4, 4)])
        self.assertEqual(optimal_ranges((((0,),), (99,), (None,)), ((4,),)), [(4, 4)])
        self.assertEqual(optimal_ranges(SQUARE, ((5, None), (None, -2))), [(0, 5), (-2, 0)])
        self.assertEqual(optimal_ranges((((0, 0),), (2,), (1, 1)), ((3, 7),)), [(0, 3)])

    def test_unreachable(self):
        for table, goal in (
            (SQUARE, ((1, 0), (0, 0))),
            ((((0,),), (None,), (None,)), ((1,),)),
            ((((0, 0),), (5,), (None, None)), ((7, 8),)),
            ((((0, 0), (0, 0)), (1, None), (1, None)), ((5, None), (None, 1))),
        ):
            with self.subTest(table=table, goal=goal):
                self.assertIsNone(minimum_cost(table, goal))
                self.assertIsNone(minimum_steps(table, goal))
                self.assertEqual(outcome(optimal_ranges, table, goal), ("NoSolution",))

    def test_ranges_follow_the_components(self):
        for table, goal in random_cases(random.Random(11), 60):
            if minimum_cost(table, goal) is not None:
                self.assertEqual(len(optimal_ranges(table, goal)), len(components(table, goal)))

    def test_repeated_calls_and_returned_lists(self):
        for table, goal in random_cases(random.Random(12), 60):
            found = minimum_cost(table, goal)
            if found is None:
                continue
            kept = (found[0], list(found[1]))
            found[1].clear()
            self.assertEqual(minimum_cost(table, goal), kept)
            ranges = optimal_ranges(table, goal)
            self.assertEqual({type(ranges), *[type(pair) for pair in ranges]}, {list, tuple})
            kept = list(ranges)
            ranges.clear()
            self.assertEqual(optimal_ranges(table, goal), kept)
            self.assertEqual(minimum_steps(table, goal), minimum_steps(table, goal))
