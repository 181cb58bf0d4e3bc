"""Invalid tables and goals, and the order in which exceptions are raised."""

import random
import unittest

from crosslift.certificates import lower_bound, optimal_certificate
from crosslift.components import components, find_contradiction, is_contradiction
from crosslift.editor import Editor
from crosslift.edits import apply_edits
from crosslift.queries import blocking_cells, forced_cells, lockable_lines
from crosslift.solver import minimum_cost, minimum_steps, optimal_ranges
from crosslift.text_format import format_table
from tests.helpers import (
    LIMIT, SMALL, SQUARE, TABLE, goal_fault, outcome, random_table, table_fault,
)

WITH_GOAL = (
    components, find_contradiction, minimum_cost, minimum_steps, optimal_ranges,
    optimal_certificate, forced_cells, blocking_cells, lockable_lines,
)
WITH_MORE = (is_contradiction, lower_bound)
RAISE_NO_SOLUTION = (optimal_ranges, optimal_certificate, forced_cells, lockable_lines)
CELLS = ((1, 2, 3), (4, 5, 6))
ROWS = (3, None)
COLUMNS = (1, 99, None)
GOAL = ((1, None, 3), (None, 5, -6))
NO_NUMBERS = (True, False, None, "1", "", (1,), [1], LIMIT + 1, -LIMIT - 1)
NO_COSTS = (True, False, "3", 0, -1, 100, (3,), [3], LIMIT)
NO_TUPLES = (None, True, False, 0, 3, "", "abc", [], [1, 2, 3])


class InvalidTables(unittest.TestCase):
    def check(self, table, part, index):
        """The table comes first, whatever the other arguments are."""
        expected = ("InvalidTable", part, index)
        with self.subTest(table=table):
            for edits in ([], [(0, 1)], None, [None]):
                self.assertEqual(outcome(apply_edits, table, edits), expected)
            for goal in (GOAL, None, (), ((True,),)):
                for function in WITH_GOAL:
                    self.assertEqual(outcome(function, table, goal), expected)
                for function in WITH_MORE:
                    self.assertEqual(outcome(function, table, goal, [0, 2, 0]), expected)
                    self.assertEqual(outcome(function, table, goal, None), expected)
            self.assertEqual(outcome(Editor, table), expected)
            self.assertEqual(outcome(format_table, table), expected)
            self.assertEqual(("InvalidTable", *table_fault(table)), expected)

    def test_valid_tables(self):
        wide = tuple(tuple(range(7)) for _ in range(7))
        for table in (
            (CELLS, ROWS, COLUMNS),
            (((LIMIT, -LIMIT),), (99,), (1, None)),
            (((0,),), (None,), (None,)),
            (wide, (1,) * 7, (99,) * 7),
            (tuple((row,) for row in range(7)), (1,) * 7, (1,)),
            ((tuple(range(7)),), (1,), (None,) * 7),
        ):
            with self.subTest(table=table):
                goal = table[0]
                self.assertEqual(apply_edits(table, []), (table[0], 0))
                self.assertEqual(minimum_cost(table, goal)[0], 0)
                self.assertEqual(Editor(table).table(), table)
                self.assertIs(type(format_table(table)), str)
                self.assertIsNone(table_fault(table))

    def test_not_three_items(self):
        for table in NO_TUPLES:
            self.check(table, -1, 0)
        self.check((), -1, 0)
        self.check((CELLS,), -1, 0)
        self.check((CELLS, ROWS), -1, 0)
        self.check((CELLS, ROWS, COLUMNS, COLUMNS), -1, 0)
        self.check([CELLS, ROWS, COLUMNS], -1, 0)
        self.check((None, None, None, None), -1, 0)

    def test_cells_no_tuple_or_empty(self):
        for cells in NO_TUPLES + ((),):
            self.check((cells, ROWS, COLUMNS), 0, 0)
        self.check((list(CELLS), ROWS, COLUMNS), 0, 0)
        self.check((None, None, None), 0, 0)
        self.check(((), (), ()), 0, 0)

    def test_row_no_tuple(self):
        for row in NO_TUPLES:
            self.check(((row, (1, 2, 3)), ROWS, COLUMNS), 0, 0)
            self.check((((1, 2, 3), row), ROWS, COLUMNS), 0, 1)

    def test_wrong_numbers(self):
        for value in NO_NUMBERS:
            for column in range(3):
                row = (1,) * column + (value,) + (2,) * (2 - column)
                self.check(((row, (1, 2, 3)), ROWS, COLUMNS), 0, 0)
                self.check((((1, 2, 3), row), ROWS, COLUMNS), 0, 1)
                self.check(((row, row), ROWS, COLUMNS), 0, 0)

    def test_lengths_of_rows(self):
        self.check((((1, 2, 3), (4, 5)), ROWS, COLUMNS), 0, 1)
        self.check((((1, 2, 3), (4, 5, 6, 7)), ROWS, COLUMNS), 0, 1)
        self.check((((1, 2), (4, 5, 6)), ROWS, COLUMNS), 0, 1)
        self.check((((1, 2, 3), ()), ROWS, COLUMNS), 0, 1)
        self.check((((1,), (1,), (1,), (1, 2), (1,), ()), (1,) * 6, (1,)), 0, 3)

    def test_length_of_the_first_row(self):
        self.check((((), ()), ROWS, ()), 0, 0)
        self.check((((), (1,)), ROWS, COLUMNS), 0, 0)
        self.check((((1,) * 8,), (1,), (1,) * 8), 0, 0)
        self.check((((1,) * 8, (1,) * 7), (1, 1), (1,) * 7), 0, 0)

    def test_eighth_row(self):
        row = (1, 2, 3)
        self.check(((row,) * 8, (1,) * 8, COLUMNS), 0, 7)
        self.check(((row,) * 9, (1,) * 9, COLUMNS), 0, 7)
        self.check(((row,) * 7 + (None,), (1,) * 7, COLUMNS), 0, 7)
        self.check(((row,) * 7 + ((1, True, 3),), (1,) * 7, COLUMNS), 0, 7)
        self.check(((row,) * 4 + ((1, 2),) + (row,) * 3, (1,) * 8, COLUMNS), 0, 4)

    def test_costs_no_tuple(self):
        for costs in NO_TUPLES:
            self.check((CELLS, costs, COLUMNS), 1, 0)
            self.check((CELLS, ROWS, costs), 2, 0)
        self.check((CELLS, list(ROWS), COLUMNS), 1, 0)
        self.check((CELLS, ROWS, list(COLUMNS)), 2, 0)

    def test_wrong_costs(self):
        for cost in NO_COSTS:
            self.check((CELLS, (cost, 1), COLUMNS), 1, 0)
            self.check((CELLS, (1, cost), COLUMNS), 1, 1)
            self.check((CELLS, (cost, cost), COLUMNS), 1, 0)
            self.check((CELLS, ROWS, (cost, 1, 1)), 2, 0)
            self.check((CELLS, ROWS, (1, None, cost)), 2, 2)

    def test_missing_and_superfluous_costs(self):
        self.check((CELLS, (), COLUMNS), 1, 0)
        self.check((CELLS, (1,), COLUMNS), 1, 1)
        self.check((CELLS, (1, 2, 3), COLUMNS), 1, 2)
        self.check((CELLS, (1, 2, None), COLUMNS), 1, 2)
        self.check((CELLS, (1, 2, 0, 0), COLUMNS), 1, 2)
        self.check((CELLS, (0,), COLUMNS), 1, 0)
        self.check((CELLS, (1, 0, 1), COLUMNS), 1, 1)
        self.check((CELLS, ROWS, ()), 2, 0)
        self.check((CELLS, ROWS, (1, None)), 2, 2)
        self.check((CELLS, ROWS, (1, 2, 3, 4)), 2, 3)
        self.check((CELLS, ROWS, (1, 0, 3, 4)), 2, 1)
        self.check((CELLS, ROWS, (100, 2)), 2, 0)

    def test_first_invalid_part(self):
        self.check((((1, 2, 3), (4, 5)), None, None), 0, 1)
        self.check((((1, 2, 3), (4, True, 6)), (0, 0), (0, 0, 0)), 0, 1)
        self.check((CELLS, (1, 0), (0, 0, 0)), 1, 1)
        self.check((CELLS, (1,), None), 1, 1)


class InvalidGoals(unittest.TestCase):
    def check(self, goal, row, column):
        expected = ("InvalidGoal", row, column)
        table = (CELLS, ROWS, COLUMNS)
        with self.subTest(goal=goal):
            for function in WITH_GOAL:
                self.assertEqual(outcome(function, table, goal), expected)
            for more in ([0, 2, 0], [], None, 3):
                for function in WITH_MORE:
                    self.assertEqual(outcome(function, table, goal, more), expected)
            editor = Editor(table)
            self.assertEqual(outcome(editor.solve, goal), expected)
            self.assertEqual((editor.table(), editor.length()), (table, 0))
            self.assertEqual(goal_fault(CELLS, goal), (row, column))

    def test_valid_goals(self):
        table = (((0, 0),), (1,), (1, 1))
        for goal in (((LIMIT, -LIMIT),), ((None, None),), ((None, LIMIT),)):
            with self.subTest(goal=goal):
                self.assertIsNotNone(minimum_cost(table, goal))
                self.assertIsNone(find_contradiction(table, goal))

    def test_goal_no_tuple(self):
        for goal in NO_TUPLES:
            self.check(goal, 0, 0)
        self.check(list(GOAL), 0, 0)

    def test_row_no_tuple(self):
        for row in NO_TUPLES:
            self.check((row, (1, 2, 3)), 0, 0)
            self.check(((1, 2, 3), row), 1, 0)

    def test_wrong_entries(self):
        for value in NO_NUMBERS:
            if value is None:
                continue
            for column in range(3):
                row = (1,) * column + (value,) + (None,) * (2 - column)
                self.check((row, (1, 2, 3)), 0, column)
                self.check(((1, None, 3), row), 1, column)
                self.check((row, row), 0, column)

    def test_missing_and_superfluous_entries(self):
        self.check(((1, 2), (1, 2, 3)), 0, 2)
        self.check(((1, 2, 3), (1,)), 1, 1)
        self.check(((1, 2, 3), ()), 1, 0)
        self.check(((1, 2, 3, 4), (1, 2, 3)), 0, 3)
        self.check(((1, 2, 3), (1, 2, 3, None, None)), 1, 3)
        self.check(((1, True), (1, 2, 3)), 0, 1)
        self.check(((1, True, 3, 4), (1, 2, 3)), 0, 1)

    def test_missing_and_superfluous_rows(self):
        self.check((), 0, 0)
        self.check(((1, 2, 3),), 1, 0)
        self.check(((1, 2, 3), (1, 2, 3), (1, 2, 3)), 2, 0)
        self.check(((1, 2, 3), (1, 2, 3), None), 2, 0)
        self.check(((1, 2, 3), (1, 2, 3), (1, 2, True)), 2, 0)

    def test_first_in_row_order(self):
        self.check(((1, 2, 3, 4), None), 0, 3)
        self.check(((1, 2, True),), 0, 2)
        self.check(((1, 2, 3), (1, "2", 3), (1, 2, 3)), 1, 1)
        self.check(((1, 2, 3), (True, 2), None), 1, 0)

    def test_shape_follows_the_table(self):
        self.assertEqual(outcome(components, SMALL, ((4, 5),)), ("InvalidGoal", 0, 1))
        self.assertEqual(outcome(components, SMALL, ((4,), (5,))), ("InvalidGoal", 1, 0))
        self.assertEqual(outcome(minimum_steps, TABLE, ((4, 5), (6,))), ("InvalidGoal", 1, 1))

    def test_goal_comes_before_no_solution(self):
        goal = ((1, 0), (0, True))
        for function in RAISE_NO_SOLUTION:
            self.assertEqual(outcome(function, SQUARE, goal), ("InvalidGoal", 1, 1))
        self.assertEqual(outcome(lower_bound, SQUARE, goal, None), ("InvalidGoal", 1, 1))
        self.assertEqual(outcome(Editor(SQUARE).solve, goal), ("InvalidGoal", 1, 1))


class RandomTables(unittest.TestCase):
    """Valid tables with up to two invalid changes."""

    def test_first_invalid_part(self):
        source = random.Random(20)
        faults = {}
        for number in range(3000):
            rows, columns = source.randint(1, 7), source.randint(1, 7)
            table = random_table(source, rows, columns, 0.2, source.choice((9, LIMIT)))
            for _ in range(number % 3):
                table = self.with_a_change(source, table)
            fault = table_fault(table)
            faults[fault] = faults.get(fault, 0) + 1
            expected = None if fault is None else ("InvalidTable", *fault)
            with self.subTest(table=table):
                for found in (
                    outcome(apply_edits, table, []), outcome(format_table, table), outcome(Editor, table),
                ):
                    self.assertEqual(found if found[0] != "returned" else None, expected)
                if fault is None:
                    self.assertEqual(apply_edits(table, []), (table[0], 0))
        self.assertEqual({fault and fault[0] for fault in faults}, {None, -1, 0, 1, 2})
        self.assertGreater(len(faults), 20)
        self.assertGreater(faults[None], 500)

    def with_a_change(self, source, table):
        if type(table) is not tuple or len(table) != 3 or source.random() < 0.05:
            return self.with_an_item_changed(source, table, NO_TUPLES)
        part = source.randrange(3)
        if part or type(table[0]) is not tuple or not table[0] or source.random() < 0.3:
            changed = self.with_an_item_changed(source, table[part], NO_COSTS if part else NO_TUPLES)
        else:
            row = source.randrange(len(table[0]))
            entries = self.with_an_item_changed(source, table[0][row], NO_NUMBERS)
            changed = (*table[0][:row], entries, *table[0][row + 1:])
        return (*table[:part], changed, *table[part + 1:])

    @staticmethod
    def with_an_item_changed(source, whole, wrong):
        """A tuple with an item that is wrong, missing or superfluous; or no tuple at all."""
        way = source.randrange(5)
        if type(whole) is not tuple or not whole or way == 0:
            return source.choice((*NO_TUPLES, (), [whole]))
        at = source.randrange(len(whole))
        if way == 1:
            return (*whole[:at], *whole[at + 1:])
        if way == 2:
            return (*whole[:at], whole[at], *whole[at:])
        return (*whole[:at], source.choice(wrong), *whole[at + 1:])
