import copy
import random
import unittest

from crosslift.edits import apply_edits
from tests.helpers import (
    LIMIT, MALFORMED, NO_LISTS, SMALL, TABLE, all_costs, edits_fault, outcome, random_table,
)

def edited_one_by_one(table, edits):
    """The outcome, by changing the cells one after the other."""
    costs = all_costs(table)
    cells = [list(row) for row in table[0]]
    total = 0
    fault = edits_fault(costs, edits)
    if fault is not None:
        return ("InvalidEdit", *fault)
    for line, delta in edits:
        for row in range(len(cells)):
            for column in range(len(cells[0])):
                if line in (row, len(cells) + column):
                    cells[row][column] += delta
        total += max(delta, -delta) * costs[line]
    return ("returned", (tuple(tuple(row) for row in cells), total))


class ApplyEdits(unittest.TestCase):
    def test_no_edits(self):
        self.assertEqual(apply_edits(TABLE, []), (((0, 0), (0, 0)), 0))

    def test_each_line(self):
        table = (((1, 2, 3), (4, 5, 6)), (1, 2), (3, 4, 99))
        self.assertEqual(apply_edits(table, [(0, 5)]), (((6, 7, 8), (4, 5, 6)), 5))
        self.assertEqual(apply_edits(table, [(1, -5)]), (((1, 2, 3), (-1, 0, 1)), 10))
        self.assertEqual(apply_edits(table, [(2, 1)]), (((2, 2, 3), (5, 5, 6)), 3))
        self.assertEqual(apply_edits(table, [(3, 0)]), (((1, 2, 3), (4, 5, 6)), 0))
        self.assertEqual(apply_edits(table, [(4, -1)]), (((1, 2, 2), (4, 5, 5)), 99))

    def test_each_edit_costs_by_itself(self):
        self.assertEqual(apply_edits(SMALL, [(0, 2), (0, -2), (1, 1)]), (((1,),), 15))

    def test_results_beyond_the_range(self):
        table = (((LIMIT,),), (99,), (1,))
        edits = [(0, LIMIT), (1, LIMIT), (0, LIMIT)]
        self.assertEqual(apply_edits(table, edits), (((4 * LIMIT,),), 199 * LIMIT))
        self.assertEqual(apply_edits(table, [(0, -LIMIT)] * 3), (((-2 * LIMIT,),), 297 * LIMIT))

    def test_kinds_of_values(self):
        cells, cost = apply_edits(TABLE, [(1, 1)])
        self.assertEqual([type(cells), type(cells[0]), type(cells[1]), type(cost)], [tuple] * 3 + [int])
        self.assertIs(type(apply_edits(TABLE, [(1, 1)])), tuple)

    def test_not_a_list(self):
        for edits in NO_LISTS:
            with self.subTest(edits=edits):
                self.assertEqual(outcome(apply_edits, TABLE, edits), ("InvalidEdit", 0, "malformed"))

    def test_malformed(self):
        for edit in MALFORMED:
            with self.subTest(edit=edit):
                self.assertEqual(outcome(apply_edits, TABLE, [edit]), ("InvalidEdit", 0, "malformed"))
                self.assertEqual(
                    outcome(apply_edits, TABLE, [(0, 1), (1, 1), edit, (3, 1)]),
                    ("InvalidEdit", 2, "malformed"),
                )

    def test_lines_at_the_edge(self):
        self.assertEqual(outcome(apply_edits, SMALL, [(2, 1)]), ("InvalidEdit", 0, "malformed"))
        self.assertEqual(outcome(apply_edits, SMALL, [(-1, 1)]), ("InvalidEdit", 0, "malformed"))
        self.assertEqual(outcome(apply_edits, TABLE, [(4, 1)]), ("InvalidEdit", 0, "malformed"))
        self.assertEqual(apply_edits(SMALL, [(1, LIMIT), (0, -LIMIT)]), (((0,),), 6 * LIMIT))

    def test_locked(self):
        table = (((0, 0), (0, 0)), (3, None), (4, None))
        for edit in ((1, 1), (3, 1), (3, 0), (1, -LIMIT)):
            with self.subTest(edit=edit):
                self.assertEqual(outcome(apply_edits, table, [edit]), ("InvalidEdit", 0, "locked"))

    def test_malformed_edit_of_a_locked_line(self):
        for edit in ((3, LIMIT + 1), (3, True), (3, None), (3,), (3, 1, 1), [3, 1]):
            with self.subTest(edit=edit):
                self.assertEqual(outcome(apply_edits, TABLE, [edit]), ("InvalidEdit", 0, "malformed"))

    def test_first_of_several(self):
        self.assertEqual(outcome(apply_edits, TABLE, [(0, 1), (3, 1), None]), ("InvalidEdit", 1, "locked"))
        self.assertEqual(outcome(apply_edits, TABLE, [(0, 1), None, (3, 1)]), ("InvalidEdit", 1, "malformed"))

    def test_random_lists(self):
        source = random.Random(4)
        seen = set()
        for number in range(600):
            rows, columns = source.randint(1, 7), source.randint(1, 7)
            table = random_table(source, rows, columns, source.choice((0, 0, 0.1)), LIMIT)
            edits = [self.random_edit(source, rows + columns) for _ in range(source.randint(0, 40))]
            if number % 2:
                at = source.randint(0, len(edits))
                edits.insert(at, source.choice(MALFORMED + ((rows + columns, 1),)))
                edits = edits[:40]
            before = copy.deepcopy(edits)
            expected = edited_one_by_one(table, edits)
            seen.add(expected[0] if expected[0] == "returned" else expected[2])
            with self.subTest(table=table, edits=edits):
                self.assertEqual(outcome(apply_edits, table, edits), expected)
                self.assertEqual(edits, before)
                self.assertEqual(outcome(apply_edits, table, edits), expected)
        self.assertEqual(seen, {"returned", "malformed", "locked"})

    @staticmethod
    def random_edit(source, lines):
        largest = source.choice((3, 1000, LIMIT))
        return source.randrange(lines), source.randint(-largest, largest)

    def test_a_later_change_of_the_list(self):
        edits = [(0, 1), (1, 2)]
        result = apply_edits(TABLE, edits)
        edits.append((0, 1))
        self.assertEqual(result, (((1, 1), (2, 2)), 13))
        self.assertEqual(apply_edits(TABLE, edits), (((2, 2), (2, 2)), 16))

    def test_a_call_that_raises_changes_nothing(self):
        edits = [(0, 1), (3, 1), (0, 2)]
        self.assertEqual(outcome(apply_edits, TABLE, edits), ("InvalidEdit", 1, "locked"))
        self.assertEqual(edits, [(0, 1), (3, 1), (0, 2)])
        self.assertEqual(apply_edits(TABLE, [(0, 1)]), (((1, 1), (0, 0)), 3))
