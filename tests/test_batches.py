import unittest

from crosslift.editor import Editor
from tests.helpers import LIMIT, MALFORMED, NO_LISTS, SMALL, TABLE, EditorCase, outcome, shown


class Batches(EditorCase):
    def aborts(self, editor, edits, index, reason):
        before = shown(editor)
        with self.subTest(edits=edits):
            kept = list(edits) if type(edits) is list else edits
            self.assertEqual(outcome(editor.apply_batch, edits), ("BatchAborted", index, reason))
            self.assertEqual(edits, kept)
            after = shown(editor)
            self.assertEqual(after[:4], before[:4])
            self.assertEqual(after[4], before[4] + ["batch", "aborted"])

    def test_a_single_entry(self):
        editor = Editor(TABLE)
        self.assertEqual(editor.apply_batch([(0, 2), (2, -1), (0, -3)]), 19)
        self.check(editor, (((-2, -1), (-1, 0)), (3, 5), (4, None)), 19, [-1, 0, -1, 0], 1)
        self.assertIs(editor.undo(), True)
        self.check(editor, TABLE, 0, [0, 0, 0, 0], 0)
        self.assertIs(editor.redo(), True)
        self.check(editor, (((-2, -1), (-1, 0)), (3, 5), (4, None)), 19, [-1, 0, -1, 0], 1)

    def test_no_edits(self):
        editor = Editor(TABLE)
        self.assertEqual(editor.apply_batch([]), 0)
        self.check(editor, TABLE, 0, [0, 0, 0, 0], 1)
        self.assertEqual(editor.events(), ["batch"])
        self.assertEqual([editor.undo(), editor.undo()], [True, False])

    def test_each_edit_costs_by_itself(self):
        editor = Editor(SMALL)
        self.assertEqual(editor.apply_batch([(0, LIMIT), (0, -LIMIT)] * 3), 18 * LIMIT)
        self.check(editor, SMALL, 18 * LIMIT, [0, 0], 1)

    def test_costs_at_the_time(self):
        editor = Editor(TABLE)
        self.assertEqual(editor.apply_batch([(0, 1), (1, 1)]), 8)
        editor.set_cost(0, 10)
        self.assertEqual(editor.apply_batch([(0, 1), (1, 1)]), 15)
        self.assertEqual(editor.total_cost(), 23)
        editor.undo()
        editor.undo()
        self.assertEqual(editor.total_cost(), 8)
        self.assertEqual(editor.apply_batch([(0, 1)]), 3)

    def test_not_a_list(self):
        editor = Editor(TABLE)
        for edits in NO_LISTS:
            self.aborts(editor, edits, 0, "malformed")

    def test_invalid_edits(self):
        editor = Editor(TABLE)
        editor.apply((0, 1))
        for edit in (*MALFORMED, (4, 1), (3, True), [(0, 1)]):
            self.aborts(editor, [edit], 0, "malformed")
            self.aborts(editor, [(0, 1), (1, 1), edit, (3, 1)], 2, "malformed")
        for edit in ((3, 1), (3, 0), (3, -LIMIT)):
            self.aborts(editor, [edit], 0, "locked")
            self.aborts(editor, [(0, 1), edit, None], 1, "locked")

    def test_locks_of_the_moment(self):
        editor = Editor(TABLE)
        editor.set_cost(3, 2)
        editor.set_cost(0, None)
        self.assertEqual(editor.apply_batch([(3, 1)]), 2)
        self.aborts(editor, [(3, 1), (0, 1)], 1, "locked")
        editor.undo()
        editor.undo()
        editor.undo()
        self.aborts(editor, [(0, 1), (3, 1)], 1, "locked")

    def test_an_abort_keeps_what_was_undone(self):
        editor = Editor(TABLE)
        editor.apply_batch([(0, 1), (1, 1)])
        after = shown(editor)[:4]
        editor.undo()
        self.aborts(editor, [(0, 5), (3, 1)], 1, "locked")
        self.assertIs(editor.redo(), True)
        self.assertEqual(shown(editor)[:4], after)

    def test_a_later_change_of_the_list(self):
        editor = Editor(TABLE)
        edits = [(0, 1), (1, 1)]
        editor.apply_batch(edits)
        after = shown(editor)
        edits[0] = (2, 50)
        edits.append((0, 7))
        self.assertEqual(shown(editor), after)
        editor.undo()
        edits.clear()
        editor.redo()
        self.assertEqual(shown(editor), after)


class Events(unittest.TestCase):
    def test_in_order(self):
        editor = Editor(TABLE)
        told = []
        for edits, name in (
            ([(0, 1)], "batch"), ([(3, 1)], "aborted"), ([], "batch"), (None, "aborted"), ([None], "aborted"),
            ([(1, 1)], "batch"),
        ):
            outcome(editor.apply_batch, edits)
            told += ["batch"] if name == "batch" else ["batch", "aborted"]
            self.assertEqual(editor.events(), told)
        self.assertEqual(editor.length(), 3)

    def test_nothing_else_adds_or_removes_one(self):
        editor = Editor(TABLE)
        editor.apply_batch([(0, 1)])
        outcome(editor.apply_batch, [(3, 1)])
        told = ["batch", "batch", "aborted"]
        editor.apply((0, 1))
        editor.solve(((0, None), (None, None)))
        editor.set_cost(0, None)
        outcome(editor.apply, None)
        outcome(editor.solve, None)
        outcome(editor.set_cost, 9, 9)
        self.assertEqual(editor.events(), told)
        while editor.undo():
            self.assertEqual(editor.events(), told)
        while editor.redo():
            self.assertEqual(editor.events(), told)
        editor.undo()
        editor.apply_batch([])
        self.assertEqual(editor.events(), told + ["batch"])

    def test_each_editor_has_its_own(self):
        one, two = Editor(TABLE), Editor(TABLE)
        one.apply_batch([])
        self.assertEqual((one.events(), two.events()), (["batch"], []))
