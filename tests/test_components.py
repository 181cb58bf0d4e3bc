import random
import unittest

from crosslift.components import components, find_contradiction, is_contradiction
from crosslift.solver import minimum_cost
from tests.helpers import (
    SMALL, SQUARE, TABLE, all_costs, contradicts, gap_between, opened, random_cases, random_table,
    spoilt, union_of_lines,
)

UNREACHABLE = ((1, 0), (0, 0))


class Components(unittest.TestCase):
    def test_lines_without_specified_cells(self):
        self.assertEqual(components(TABLE, ((None, None), (None, None))), [[0], [1], [2], [3]])
        self.assertEqual(components(TABLE, ((None, None), (None, 7))), [[0], [1, 3], [2]])
        self.assertEqual(components(SMALL, ((None,),)), [[0], [1]])

    def test_order(self):
        self.assertEqual(components(TABLE, ((None, 7), (5, None))), [[0, 3], [1, 2]])
        table = (((0, 0, 0), (0, 0, 0), (0, 0, 0)), (1, 1, 1), (1, 1, 1))
        goal = ((None, None, 0), (None, 0, None), (None, None, 0))
        self.assertEqual(components(table, goal), [[0, 2, 5], [1, 4], [3]])

    def test_one_component(self):
        self.assertEqual(components(TABLE, ((1, 2), (3, None))), [[0, 1, 2, 3]])
        self.assertEqual(components(SMALL, ((0,),)), [[0, 1]])

    def test_a_value_of_zero_specifies_a_cell(self):
        self.assertEqual(components(TABLE, ((0, None), (None, None))), [[0, 2], [1], [3]])

    def test_against_a_union_of_lines(self):
        source = random.Random(5)
        for _ in range(400):
            rows, columns = source.randint(1, 7), source.randint(1, 7)
            table = random_table(source, rows, columns, 0.3, 3)
            goal = opened(source, table[0], source.choice((0, 0.5, 0.7, 0.8, 0.9, 1)))
            with self.subTest(table=table, goal=goal):
                found = components(table, goal)
                self.assertEqual(found, union_of_lines(table, goal))
                self.assertEqual({type(found), *[type(group) for group in found]}, {list})

    def test_returned_lists_belong_to_the_caller(self):
        goal = ((5, None), (None, 7))
        found = components(TABLE, goal)
        found[0].append(9)
        found.append([8])
        self.assertEqual(components(TABLE, goal), [[0, 2], [1, 3]])


class IsContradiction(unittest.TestCase):
    def check(self, table, goal, path, expected):
        with self.subTest(table=table, goal=goal, path=path):
            self.assertIs(is_contradiction(table, goal, path), expected)
            self.assertIs(is_contradiction(table, goal, path), expected)

    def test_from_a_line_to_itself(self):
        self.check(SQUARE, UNREACHABLE, [0, 2, 1, 3, 0], True)
        self.check(SQUARE, UNREACHABLE, [2, 1, 3, 0, 2], True)
        self.check(SQUARE, UNREACHABLE, [3, 1, 2, 0, 3], True)
        self.check(SQUARE, UNREACHABLE, [0, 2, 1, 3, 0, 2, 0], True)
        self.check(SQUARE, ((1, 0), (0, -1)), [0, 2, 1, 3, 0], False)
        self.check(SQUARE, UNREACHABLE, [0, 2, 0], False)
        self.check(SQUARE, UNREACHABLE, [0, 2, 1, 3], False)
        self.check(SQUARE, UNREACHABLE, [0, 2, 1, 2, 0], False)

    def test_between_locked_lines(self):
        table = (((0, 0), (0, 0)), (None, 5), (4, None))
        self.check(table, ((0, 1), (0, 0)), [0, 3], True)
        self.check(table, ((0, 1), (0, 0)), [3, 0], True)
        self.check(table, ((0, 0), (1, 0)), [0, 3], False)
        self.check(table, ((0, 0), (1, 0)), [0, 2, 1, 3], True)
        self.check(table, ((1, None), (1, 0)), [0, 2, 1, 3], False)
        self.check(table, ((1, None), (0, 1)), [0, 2, 1, 3], True)
        self.check(table, ((1, None), (3, 2)), [0, 2, 1, 3], False)
        self.check(table, ((1, None), (3, 1)), [0, 2, 1, 3], True)

    def test_one_end_locked(self):
        self.check(TABLE, ((1, 1), (1, 1)), [0, 3], False)
        self.check(TABLE, ((1, 1), (1, 1)), [3, 0], False)
        self.check(TABLE, ((1, 1), (1, 1)), [3, 0, 2, 1], False)
        self.check(TABLE, ((1, None), (1, 1)), [0, 2], False)

    def test_two_rows_that_are_locked(self):
        table = (((0,), (0,)), (None, None), (1,))
        self.check(table, ((1,), (2,)), [0, 2, 1], True)
        self.check(table, ((1,), (1,)), [0, 2, 1], False)
        self.check(table, ((1,), (2,)), [0, 1], False)

    def test_steps_that_are_no_edge(self):
        table = (((0, 0), (0, 0)), (None, None), (None, None))
        goal = ((1, None), (2, 3))
        self.check(table, goal, [0, 2], True)
        self.check(table, goal, [0, 3], False)
        self.check(table, goal, [3, 0], False)
        self.check(table, goal, [0, 1], False)
        self.check(table, goal, [2, 3], False)
        self.check(table, goal, [0, 0], False)
        self.check(table, goal, [0, 2, 1, 3, 0, 2], False)
        self.check(table, goal, [0, 3, 1, 2], False)

    def test_lines_that_do_not_exist(self):
        self.check(SQUARE, UNREACHABLE, [0, -2, 1, 3, 0], False)
        self.check(SQUARE, UNREACHABLE, [-4, 2, 1, 3, -4], False)
        self.check(SQUARE, UNREACHABLE, [0, 4, 1, 3, 0], False)
        self.check(SQUARE, UNREACHABLE, [0, 2, 1, 3, 0, 99], False)
        self.check(SQUARE, UNREACHABLE, [99, 0, 2, 1, 3, 0, 99], False)
        table = (((0, 0), (0, 0)), (None, None), (None, None))
        self.check(table, ((1, 2), (3, 4)), [3, 1], True)
        for path in ([-1, 1], [1, -1], [-2, 0], [0, -2], [-4, 2], [2, -4], [4, 1], [1, 4], [-5, 2]):
            self.check(table, ((1, 2), (3, 4)), path, False)

    def test_no_integers(self):
        self.check(SQUARE, UNREACHABLE, [False, 2, 1, 3, False], False)
        self.check(SQUARE, UNREACHABLE, [0, 2, True, 3, 0], False)
        for line in (None, "1", "", [1], (1,), []):
            self.check(SQUARE, UNREACHABLE, [0, 2, line, 3, 0], False)
            self.check(SQUARE, UNREACHABLE, [line, 2, 0, 3, line], False)

    def test_no_path_at_all(self):
        for path in (
            None, True, False, 0, 2, "", "02130", (), (0, 2, 1, 3, 0), ((0, 2, 1, 3, 0),), [], [0],
            [[0, 2, 1, 3, 0]], [(0, 2, 1, 3, 0)],
        ):
            self.check(SQUARE, UNREACHABLE, path, False)
        self.check((((0,),), (None,), (None,)), ((5,),), [0], False)

    def test_random_walks(self):
        source = random.Random(6)
        counts = {True: 0, False: 0}
        for table, goal in random_cases(source, 600, 4):
            goal = spoilt(source, goal)
            count = len(all_costs(table))
            for _ in range(6):
                path = [source.randrange(count)]
                for _ in range(source.randint(0, 9)):
                    joined = [
                        line for line in range(count)
                        if gap_between(table, goal, path[-1], line) is not None
                    ]
                    path.append(source.choice(joined or [path[-1]]))
                    if source.random() < 0.03:
                        path.append(source.randrange(-1, count + 1))
                        break
                expected = contradicts(table, goal, path)
                counts[expected] += 1
                before = list(path)
                self.check(table, goal, path, expected)
                self.assertEqual(path, before)
        self.assertGreater(min(counts.values()), 50)


class FindContradiction(unittest.TestCase):
    def check(self, table, goal, reachable):
        with self.subTest(table=table, goal=goal):
            path = find_contradiction(table, goal)
            if reachable:
                self.assertIsNone(path)
                return
            self.assertIs(type(path), list)
            self.assertTrue(contradicts(table, goal, path))
            self.assertIs(is_contradiction(table, goal, path), True)
            self.assertEqual(find_contradiction(table, goal), path)

    def test_reachable(self):
        self.check(SQUARE, ((None, None), (None, None)), True)
        self.check(SQUARE, ((1, 2), (3, 4)), True)
        self.check(SQUARE, ((1, 9), (3, None)), True)
        self.check(TABLE, ((1, 2), (3, 4)), True)
        self.check((((0,),), (None,), (None,)), ((0,),), True)
        self.check((((0,),), (None,), (None,)), ((None,),), True)

    def test_unreachable(self):
        self.check(SQUARE, UNREACHABLE, False)
        self.check((((0,),), (None,), (None,)), ((1,),), False)
        self.check((((0,), (0,)), (None, None), (1,)), ((1,), (2,)), False)
        self.check((((0, 0), (0, 0)), (None, 5), (4, None)), ((7, None), (8, 2)), False)
        self.check((((0, 0),), (5,), (None, None)), ((7, 8),), False)

    def test_in_a_later_component(self):
        table = (((0, 0, 0), (0, 0, 0), (0, 0, 0)), (1, 1, 1), (1, 1, 1))
        self.check(table, ((5, None, None), (None, 0, 0), (None, 0, 1)), False)
        table = (((0, 0), (0, 0)), (1, None), (1, None))
        self.check(table, ((5, None), (None, 1)), False)

    def test_exactly_if_there_is_no_solution(self):
        counts = {True: 0, False: 0}
        for table, goal in random_cases(random.Random(7), 500):
            reachable = minimum_cost(table, goal) is not None
            counts[reachable] += 1
            self.check(table, goal, reachable)
        self.assertGreater(min(counts.values()), 50)

    def test_returned_list_belongs_to_the_caller(self):
        path = find_contradiction(SQUARE, UNREACHABLE)
        path.clear()
        self.check(SQUARE, UNREACHABLE, False)
