from crosslift.editor import Editor
from crosslift.solver import minimum_cost
from tests.helpers import (
    LIMIT, MALFORMED, SMALL, SQUARE, TABLE, EditorCase, cost_of, outcome, reaches, shown,
)

OPEN = ((None, None), (None, None))
UNREACHABLE = ((1, 0), (0, 0))
NO_LINES = (None, True, False, "", "0", (0,), [0], -1, 4, 99, -4, LIMIT)
NO_COSTS = (True, False, "", "3", (3,), [3], 0, -1, 100, -99, LIMIT)


class Start(EditorCase):
    def test_empty_history(self):
        editor = Editor(TABLE)
        self.check(editor, TABLE, 0, [0, 0, 0, 0], 0)
        self.assertEqual(editor.events(), [])
        self.assertIs(editor.undo(), False)
        self.assertIs(editor.redo(), False)
        self.check(editor, TABLE, 0, [0, 0, 0, 0], 0)

    def test_invalid_table(self):
        self.assertEqual(outcome(Editor, None), ("InvalidTable", -1, 0))
        self.assertEqual(outcome(Editor, (((0,),), (3,), (0,))), ("InvalidTable", 2, 0))

    def test_separate_editors(self):
        one, two = Editor(TABLE), Editor(TABLE)
        one.apply((0, 5))
        one.set_cost(3, 1)
        one.apply_batch([])
        self.check(two, TABLE, 0, [0, 0, 0, 0], 0)
        self.assertEqual(two.events(), [])
        self.assertIs(two.undo(), False)
        two.apply((1, 1))
        self.check(one, (((5, 5), (0, 0)), (3, 5), (4, 1)), 15, [5, 0, 0, 0], 3)
        self.check(Editor(TABLE), TABLE, 0, [0, 0, 0, 0], 0)


class Apply(EditorCase):
    def test_one_after_the_other(self):
        editor = Editor(TABLE)
        self.assertEqual(editor.apply((0, 2)), 6)
        self.check(editor, (((2, 2), (0, 0)), (3, 5), (4, None)), 6, [2, 0, 0, 0], 1)
        self.assertEqual(editor.apply((2, -1)), 4)
        self.check(editor, (((1, 2), (-1, 0)), (3, 5), (4, None)), 10, [2, 0, -1, 0], 2)
        self.assertEqual(editor.apply((0, -2)), 6)
        self.check(editor, (((-1, 0), (-1, 0)), (3, 5), (4, None)), 16, [0, 0, -1, 0], 3)

    def test_nothing_to_shift(self):
        editor = Editor(TABLE)
        self.assertEqual(editor.apply((0, 0)), 0)
        self.check(editor, TABLE, 0, [0, 0, 0, 0], 1)
        self.assertIs(editor.undo(), True)
        self.assertIs(editor.undo(), False)

    def test_cells_beyond_the_range(self):
        editor = Editor((((LIMIT,),), (99,), (1,)))
        self.assertEqual(editor.apply((0, LIMIT)), 99 * LIMIT)
        self.assertEqual(editor.apply((1, LIMIT)), LIMIT)
        self.check(editor, (((3 * LIMIT,),), (99,), (1,)), 100 * LIMIT, [LIMIT, LIMIT], 2)

    def test_invalid_edits(self):
        editor = Editor(TABLE)
        editor.apply((0, 1))
        for edit in (*MALFORMED, (4, 1), [(0, 1)], ((0, 1),), ((0, 1), (0, 1)), (3, True), (3,)):
            self.fails(editor, ("InvalidEdit", 0, "malformed"), "apply", edit)
        for edit in ((3, 1), (3, 0), (3, -LIMIT)):
            self.fails(editor, ("InvalidEdit", 0, "locked"), "apply", edit)

    def test_no_events(self):
        editor = Editor(TABLE)
        editor.apply((0, 1))
        self.fails(editor, ("InvalidEdit", 0, "locked"), "apply", (3, 1))
        self.assertEqual(editor.events(), [])


class Solve(EditorCase):
    def test_the_shifts_of_the_minimum_cost(self):
        for goal in (((2, 2), (None, None)), ((1, None), (None, -3)), ((5, None), (6, None)), ((4, 0), (7, 3))):
            editor = Editor(TABLE)
            cost, shifts = minimum_cost(TABLE, goal)
            self.assertEqual(editor.solve(goal), cost)
            self.assertEqual((editor.shifts(), editor.total_cost()), (shifts, cost))
            self.assertEqual(editor.length(), 1)

    def test_from_where_the_cells_are(self):
        editor = Editor(SMALL)
        editor.apply((0, 5))
        self.assertEqual(editor.solve(((7,),)), 6)
        self.assertEqual(editor.table()[0], ((7,),))
        self.assertEqual(editor.total_cost(), 21)

    def test_nothing_to_do(self):
        editor = Editor(TABLE)
        self.assertEqual(editor.solve(TABLE[0]), 0)
        self.assertEqual(editor.solve(OPEN), 0)
        self.check(editor, TABLE, 0, [0, 0, 0, 0], 2)
        self.assertEqual([editor.undo(), editor.undo(), editor.undo()], [True, True, False])

    def test_invalid_goals(self):
        editor = Editor(TABLE)
        editor.apply((0, 1))
        for goal, row, column in (
            (None, 0, 0), ((), 0, 0), ([[0, 0], [0, 0]], 0, 0), (((0, 0),), 1, 0), (((0, True), (0, 0)), 0, 1),
            (((0, 0), (0, 0, 0)), 1, 2), (((0, 0), (0, LIMIT + 1)), 1, 1), (((0, 0), [0, 0]), 1, 0),
        ):
            self.fails(editor, ("InvalidGoal", row, column), "solve", goal)

    def test_unreachable(self):
        editor = Editor(SQUARE)
        editor.apply((0, 1))
        self.fails(editor, ("NoSolution",), "solve", UNREACHABLE)
        editor.set_cost(0, None)
        editor.set_cost(2, None)
        self.fails(editor, ("NoSolution",), "solve", ((2, None), (None, None)))
        self.assertEqual(editor.solve(((1, 2), (None, None))), 3)

    def test_beyond_the_limits_of_a_table(self):
        for first in (LIMIT, -LIMIT):
            table = (((first, 0), (0, 0)), (3, 5), (4, None))
            editor = Editor(table)
            for _ in range(3):
                editor.apply((0, first))
            cells = editor.table()[0]
            self.assertEqual(cells, ((4 * first, 3 * first), (0, 0)))
            for goal in (((None, 0), (0, 0)), ((first, None), (5, None)), ((first, 0), (None, None)), OPEN):
                before = editor.table()
                cost = editor.solve(goal)
                after = editor.table()
                editor.undo()
                kept = editor.shifts()
                editor.redo()
                shifts = [new - old for new, old in zip(editor.shifts(), kept)]
                self.assertTrue(reaches(before, goal, shifts))
                self.assertEqual(cost_of(before, shifts), cost)
                for row in range(2):
                    for column in range(2):
                        if goal[row][column] is not None:
                            self.assertEqual(after[0][row][column], goal[row][column])
                self.assertIs(editor.undo(), True)
            self.fails(editor, ("NoSolution",), "solve", ((0, 0), (0, 0)))
            self.fails(editor, ("InvalidGoal", 0, 0), "solve", cells)
            self.fails(editor, ("InvalidGoal", 1, 1), "solve", ((0, 0), (0,)))

    def test_cost_beyond_the_limits(self):
        editor = Editor(SMALL)
        editor.set_cost(1, None)
        for _ in range(5):
            editor.apply((0, LIMIT))
        self.assertEqual(editor.solve(((-LIMIT,),)), 18 * LIMIT)
        self.check(editor, (((-LIMIT,),), (3,), (None,)), 33 * LIMIT, [-LIMIT, 0], 7)

    def test_locked_by_set_cost(self):
        editor = Editor(SMALL)
        editor.set_cost(0, None)
        self.assertEqual(editor.solve(((4,),)), 12)
        self.assertEqual(editor.shifts(), [0, 4])
        editor.set_cost(1, None)
        self.fails(editor, ("NoSolution",), "solve", ((5,),))
        self.assertEqual(editor.solve(((4,),)), 0)


class SetCost(EditorCase):
    def test_cost_of_a_line(self):
        editor = Editor(TABLE)
        self.assertIsNone(editor.set_cost(0, 7))
        self.check(editor, (TABLE[0], (7, 5), (4, None)), 0, [0, 0, 0, 0], 1)
        self.assertIsNone(editor.set_cost(3, 99))
        self.check(editor, (TABLE[0], (7, 5), (4, 99)), 0, [0, 0, 0, 0], 2)
        self.assertIsNone(editor.set_cost(1, 1))
        self.check(editor, (TABLE[0], (7, 1), (4, 99)), 0, [0, 0, 0, 0], 3)
        self.assertEqual(editor.apply((0, -2)), 14)
        self.assertEqual(editor.apply((3, 1)), 99)

    def test_lock_and_undo(self):
        editor = Editor(TABLE)
        self.assertIsNone(editor.set_cost(0, None))
        self.check(editor, (TABLE[0], (None, 5), (4, None)), 0, [0, 0, 0, 0], 1)
        self.fails(editor, ("InvalidEdit", 0, "locked"), "apply", (0, 1))
        self.assertIs(editor.undo(), True)
        self.check(editor, TABLE, 0, [0, 0, 0, 0], 0)
        self.assertEqual(editor.apply((0, 1)), 3)

    def test_unlock_and_undo(self):
        editor = Editor(TABLE)
        editor.set_cost(3, 2)
        self.assertEqual(editor.apply((3, 1)), 2)
        self.assertEqual([editor.undo(), editor.undo()], [True, True])
        self.fails(editor, ("InvalidEdit", 0, "locked"), "apply", (3, 1))
        self.assertEqual([editor.redo(), editor.redo(), editor.redo()], [True, True, False])
        self.check(editor, (((0, 1), (0, 1)), (3, 5), (4, 2)), 2, [0, 0, 0, 1], 2)

    def test_the_cost_that_it_has(self):
        editor = Editor(TABLE)
        editor.set_cost(0, 3)
        editor.set_cost(3, None)
        self.check(editor, TABLE, 0, [0, 0, 0, 0], 2)
        self.assertEqual([editor.undo(), editor.undo(), editor.undo()], [True, True, False])

    def test_several_changes_of_one_line(self):
        editor = Editor(TABLE)
        for cost in (7, None, 9, 9, 1):
            editor.set_cost(2, cost)
        costs = []
        while editor.undo():
            costs.append(editor.table()[2][0])
        self.assertEqual(costs, [9, 9, None, 7, 4])
        costs = []
        while editor.redo():
            costs.append(editor.table()[2][0])
        self.assertEqual(costs, [7, None, 9, 9, 1])

    def test_costs_at_the_time_of_an_entry(self):
        editor = Editor(TABLE)
        self.assertEqual(editor.apply((0, 2)), 6)
        editor.set_cost(0, 10)
        self.assertEqual(editor.total_cost(), 6)
        self.assertEqual(editor.apply((0, 2)), 20)
        self.assertEqual(editor.total_cost(), 26)
        editor.set_cost(0, None)
        self.assertEqual(editor.total_cost(), 26)
        editor.undo()
        editor.undo()
        self.assertEqual(editor.total_cost(), 6)
        editor.undo()
        self.assertEqual(editor.total_cost(), 6)
        editor.undo()
        self.assertEqual(editor.total_cost(), 0)
        totals = []
        while editor.redo():
            totals.append(editor.total_cost())
        self.assertEqual(totals, [6, 6, 26, 26])

    def test_unknown_lines(self):
        editor = Editor(TABLE)
        editor.apply((0, 1))
        for line in NO_LINES:
            for cost in (1, None, *NO_COSTS):
                self.fails(editor, ("UnknownLine",), "set_cost", line, cost)
        self.fails(Editor(SMALL), ("UnknownLine",), "set_cost", 2, 1)
        self.assertIsNone(Editor(SMALL).set_cost(1, 1))

    def test_invalid_costs(self):
        editor = Editor(TABLE)
        editor.apply((0, 1))
        for cost in NO_COSTS:
            for line in range(4):
                self.fails(editor, ("InvalidCost",), "set_cost", line, cost)
        for cost in (1, 99, None):
            self.assertIsNone(editor.set_cost(0, cost))


class UndoAndRedo(EditorCase):
    def test_back_and_forward(self):
        editor = Editor(SQUARE)
        calls = (
            ("apply", (0, 2)), ("set_cost", 1, 9), ("apply_batch", [(1, 1), (2, 2)]),
            ("solve", ((5, None), (None, None))), ("set_cost", 2, None), ("apply", (1, -1)),
        )
        states = [shown(editor)[:4]]
        for method, *arguments in calls:
            getattr(editor, method)(*arguments)
            states.append(shown(editor)[:4])
        self.assertEqual([state[3] for state in states], list(range(7)))
        for _ in range(2):
            for state in states[-2::-1]:
                self.assertIs(editor.undo(), True)
                self.assertEqual(shown(editor)[:4], state)
            self.assertIs(editor.undo(), False)
            self.assertEqual(shown(editor)[:4], states[0])
            for state in states[1:]:
                self.assertIs(editor.redo(), True)
                self.assertEqual(shown(editor)[:4], state)
            self.assertIs(editor.redo(), False)
            self.assertEqual(shown(editor)[:4], states[-1])

    def test_redo_restores_what_was_undone_last(self):
        editor = Editor(SMALL)
        for delta in (1, 10, 100):
            editor.apply((0, delta))
        editor.undo()
        editor.undo()
        self.assertIs(editor.redo(), True)
        self.assertEqual(editor.table()[0], ((11,),))
        editor.undo()
        self.assertEqual([editor.redo(), editor.redo(), editor.redo()], [True, True, False])
        self.assertEqual(editor.table()[0], ((111,),))

    def test_a_new_entry_ends_redo(self):
        for method, *arguments in (
            ("apply", (0, 1)), ("apply", (0, 0)), ("apply_batch", [(0, 1)]), ("apply_batch", []),
            ("solve", ((1, None), (None, None))), ("solve", OPEN), ("set_cost", 0, 5), ("set_cost", 0, 3),
        ):
            editor = Editor(SQUARE)
            editor.apply((1, 10))
            editor.apply((1, 100))
            editor.undo()
            editor.undo()
            getattr(editor, method)(*arguments)
            with self.subTest(method=method, arguments=arguments):
                before = shown(editor)
                self.assertIs(editor.redo(), False)
                self.assertEqual(shown(editor), before)
                self.assertIs(editor.undo(), True)
                self.assertIs(editor.undo(), False)
                self.assertIs(editor.redo(), True)
                self.assertEqual(shown(editor), before)

    def test_a_failed_call_does_not_end_redo(self):
        for method, *arguments in (
            ("apply", None), ("apply", (4, 1)), ("apply_batch", None), ("apply_batch", [(0, 1), (9, 1)]),
            ("solve", UNREACHABLE), ("solve", None), ("set_cost", 9, 5), ("set_cost", 0, 0),
        ):
            editor = Editor(SQUARE)
            editor.apply((1, 10))
            after = shown(editor)[:4]
            editor.undo()
            with self.subTest(method=method, arguments=arguments):
                self.assertNotEqual(outcome(getattr(editor, method), *arguments)[0], "returned")
                self.assertEqual(shown(editor)[:4], [SQUARE, 0, [0, 0, 0, 0], 0])
                self.assertIs(editor.redo(), True)
                self.assertEqual(shown(editor)[:4], after)

    def test_a_failed_undo_or_redo_changes_nothing(self):
        editor = Editor(SQUARE)
        editor.apply((1, 10))
        after = shown(editor)
        self.assertEqual([editor.redo(), editor.undo(), editor.undo(), editor.undo()], [False, True, False, False])
        self.assertEqual([editor.redo(), editor.redo()], [True, False])
        self.assertEqual(shown(editor), after)


class Returned(EditorCase):
    def test_kinds_of_values(self):
        editor = Editor(TABLE)
        editor.set_cost(3, 2)
        editor.apply_batch([(0, 1)])
        table = editor.table()
        kinds = [type(table), *map(type, table), *map(type, table[0])]
        self.assertEqual(kinds, [tuple] * 6)
        self.assertEqual([type(editor.shifts()), type(editor.events())], [list, list])
        self.assertEqual([type(editor.total_cost()), type(editor.length())], [int, int])
        self.assertEqual([type(editor.undo()), type(editor.redo())], [bool, bool])
        for cost in (editor.apply((0, 1)), editor.solve(OPEN), editor.apply_batch([])):
            self.assertIs(type(cost), int)

    def test_lists_belong_to_the_caller(self):
        editor = Editor(TABLE)
        editor.apply((0, 1))
        editor.apply_batch([(1, 1)])
        before = [editor.shifts(), editor.events()]
        shifts = editor.shifts()
        shifts[0] = 99
        shifts.append(1)
        events = editor.events()
        events.clear()
        self.assertEqual([editor.shifts(), editor.events()], before)
        editor.undo()
        self.assertEqual(editor.shifts(), [1, 0, 0, 0])
        editor.redo()
        self.assertEqual([editor.shifts(), editor.events()], before)
        editor.apply((0, 1))
        self.assertEqual(editor.shifts(), [2, 1, 0, 0])

    def test_lists_that_are_kept_do_not_change(self):
        editor = Editor(TABLE)
        shifts, events, table = editor.shifts(), editor.events(), editor.table()
        editor.apply((0, 1))
        editor.apply_batch([(1, 1)])
        editor.set_cost(0, 9)
        self.assertEqual((shifts, events, table), ([0, 0, 0, 0], [], TABLE))
