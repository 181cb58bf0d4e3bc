"""The examples of the interface sections of the document."""

import unittest

from crosslift.certificates import lower_bound, optimal_certificate
from crosslift.components import components, find_contradiction, is_contradiction
from crosslift.editor import Editor
from crosslift.edits import apply_edits
from crosslift.queries import blocking_cells, forced_cells, lockable_lines
from crosslift.solver import minimum_cost, minimum_steps, optimal_ranges
from crosslift.text_format import format_table, parse_table
from tests.helpers import SMALL, SQUARE, TABLE, outcome

METHODS = (
    "apply", "solve", "set_cost", "undo", "redo", "table", "total_cost", "length", "shifts",
    "apply_batch", "events",
)


class Examples(unittest.TestCase):
    def test_apply_edits(self):
        self.assertEqual(apply_edits(TABLE, [(0, 2), (2, -1)]), (((1, 2), (-1, 0)), 10))
        self.assertEqual(outcome(apply_edits, TABLE, [(0, 1), (3, 1)]), ("InvalidEdit", 1, "locked"))

    def test_components(self):
        self.assertEqual(components(TABLE, ((5, None), (None, 7))), [[0, 2], [1, 3]])
        self.assertEqual(outcome(components, (((0,),), (3,)), ((1,),)), ("InvalidTable", -1, 0))

    def test_is_contradiction(self):
        self.assertIs(is_contradiction(TABLE, ((1, 0), (0, 0)), [0, 2, 1, 3, 0]), True)

    def test_find_contradiction(self):
        goal = ((1, 0), (0, 0))
        self.assertIs(is_contradiction(TABLE, goal, find_contradiction(TABLE, goal)), True)

    def test_minimum_cost(self):
        self.assertEqual(minimum_cost(TABLE, ((2, 2), (None, None))), (6, [2, 0, 0, 0]))
        self.assertEqual(outcome(minimum_cost, SMALL, ((4, 5),)), ("InvalidGoal", 0, 1))

    def test_minimum_steps(self):
        self.assertEqual(minimum_steps(TABLE, ((2, 2), (None, None))), 2)

    def test_optimal_ranges(self):
        self.assertEqual(optimal_ranges(SMALL, ((4,),)), [(0, 4)])
        self.assertEqual(outcome(optimal_ranges, SQUARE, ((1, 0), (0, 0))), ("NoSolution",))

    def test_lower_bound(self):
        self.assertEqual(lower_bound(SMALL, ((4,),), [3, 3]), 12)
        self.assertEqual(outcome(lower_bound, SMALL, ((4,),), [1, 2]), ("UnbalancedCertificate", 0))

    def test_optimal_certificate(self):
        goal = ((4,),)
        self.assertEqual(lower_bound(SMALL, goal, optimal_certificate(SMALL, goal)), 12)

    def test_forced_cells(self):
        self.assertEqual(forced_cells(SQUARE, ((1, 1), (0, None))), [(1, 1, 0)])

    def test_blocking_cells(self):
        self.assertEqual(blocking_cells(SQUARE, ((1, 0), (0, 0))), [(0, 0), (0, 1), (1, 0), (1, 1)])

    def test_lockable_lines(self):
        self.assertEqual(lockable_lines(SMALL, ((4,),)), [0, 1])

    def test_editor_apply_solve_undo(self):
        editor = Editor(TABLE)
        costs = (editor.apply((0, 2)), editor.solve(((0, None), (None, None))))
        undone = editor.undo()
        self.assertEqual(
            [costs, undone, editor.shifts(), editor.total_cost(), editor.length()],
            [(6, 6), True, [2, 0, 0, 0], 6, 1],
        )

    def test_editor_set_cost(self):
        editor = Editor(TABLE)
        self.assertIsNone(editor.set_cost(3, 2))
        self.assertEqual(
            [editor.apply((3, 1)), editor.table()], [2, (((0, 1), (0, 1)), (3, 5), (4, 2))]
        )
        self.assertEqual(outcome(Editor(TABLE).set_cost, 9, 1), ("UnknownLine",))

    def test_editor_apply_batch(self):
        editor = Editor(TABLE)
        self.assertEqual(
            [editor.apply_batch([(0, 1), (1, 1)]), editor.events(), editor.length()],
            [8, ["batch"], 1],
        )
        self.assertEqual(
            outcome(Editor(TABLE).apply_batch, [(0, 1), (3, 1)]), ("BatchAborted", 1, "locked")
        )

    def test_format_table(self):
        self.assertEqual(format_table(TABLE), "cells 0 0\ncells 0 0\nrows 3 5\ncolumns 4 -")

    def test_parse_table(self):
        self.assertEqual(
            parse_table("cells 1 -2\nrows 3\ncolumns 4 -"), (((1, -2),), (3,), (4, None))
        )
        self.assertEqual(outcome(parse_table, "cells 01\nrows 3\ncolumns 4"), ("ParseError", 0))


class Names(unittest.TestCase):
    """The parameters can be given by the names that the interface lists."""

    def test_parameters(self):
        goal = ((1, 0), (0, 0))
        self.assertEqual(apply_edits(table=TABLE, edits=[]), (TABLE[0], 0))
        self.assertEqual(components(table=TABLE, goal=goal), [[0, 1, 2, 3]])
        self.assertIs(is_contradiction(table=TABLE, goal=goal, path=[]), False)
        self.assertIsNotNone(find_contradiction(table=TABLE, goal=goal))
        self.assertIsNone(minimum_cost(table=TABLE, goal=goal))
        self.assertIsNone(minimum_steps(table=TABLE, goal=goal))
        self.assertEqual(optimal_ranges(table=SMALL, goal=((4,),)), [(0, 4)])
        self.assertEqual(lower_bound(table=SMALL, goal=((4,),), weights=[3, 3]), 12)
        self.assertEqual(len(optimal_certificate(table=SMALL, goal=((4,),))), 2)
        self.assertEqual(forced_cells(table=SMALL, goal=((4,),)), [])
        self.assertEqual(blocking_cells(table=SMALL, goal=((4,),)), [])
        self.assertEqual(lockable_lines(table=SMALL, goal=((4,),)), [0, 1])
        self.assertEqual(parse_table(text=format_table(table=TABLE)), TABLE)

    def test_parameters_of_the_editor(self):
        editor = Editor(table=TABLE)
        self.assertEqual(editor.apply(edit=(0, 1)), 3)
        self.assertEqual(editor.solve(goal=((0, None), (None, None))), 3)
        self.assertIsNone(editor.set_cost(line=0, cost=1))
        self.assertEqual(editor.apply_batch(edits=[(0, 1)]), 1)

    def test_methods_are_defined_in_the_class_itself(self):
        for name in METHODS:
            self.assertIn(name, vars(Editor))

    def test_each_is_defined_in_its_file(self):
        for function, file in (
            (apply_edits, "edits"), (components, "components"), (is_contradiction, "components"),
            (find_contradiction, "components"), (minimum_cost, "solver"),
            (minimum_steps, "solver"), (optimal_ranges, "solver"), (lower_bound, "certificates"),
            (optimal_certificate, "certificates"), (forced_cells, "queries"),
            (blocking_cells, "queries"), (lockable_lines, "queries"), (Editor, "editor"),
            (format_table, "text_format"), (parse_table, "text_format"),
        ):
            self.assertEqual(function.__module__, "crosslift." + file)
