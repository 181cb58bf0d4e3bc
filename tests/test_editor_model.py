"""Editors against a model that works everything out from the start."""

import random
import unittest

from crosslift.editor import Editor
from crosslift.solver import minimum_cost
from tests.helpers import (
    LIMIT, MALFORMED, NO_LISTS, all_costs, cost_of, edits_fault, goal_fault, opened, outcome,
    random_table, reaches, shifted, shown, spoilt, table_fault, total_best_cost,
)

WRONG_GOALS = (None, (), [], ((None,),), ((True,),), ((LIMIT + 1,),), ((1, 2, 3, 4, 5, 6, 7, 8),))


class Model:
    """Remembers the calls that added an entry, each as (line costs, shifts, cost)."""

    def __init__(self, table):
        self.start = table
        self.entries = []
        self.undone = []
        self.told = []

    def costs(self):
        return self.entries[-1][0] if self.entries else all_costs(self.start)

    def shifts(self):
        return [sum(column) for column in zip([0] * len(self.costs()), *[entry[1] for entry in self.entries])]

    def table(self):
        rows = len(self.start[0])
        costs = self.costs()
        return shifted(self.start, self.shifts()), tuple(costs[:rows]), tuple(costs[rows:])

    def shown(self):
        total = sum(entry[2] for entry in self.entries)
        return [self.table(), total, self.shifts(), len(self.entries), self.told]

    def add(self, costs, shifts, cost):
        self.entries.append((costs, shifts, cost))
        self.undone = []

    def add_edits(self, edits):
        costs = self.costs()
        shifts = [sum(delta for line, delta in edits if line == at) for at in range(len(costs))]
        total = sum(abs(delta) * costs[line] for line, delta in edits)
        self.add(costs, shifts, total)
        return ("returned", total)

    def apply(self, edit):
        fault = edits_fault(self.costs(), [edit])
        return self.add_edits([edit]) if fault is None else ("InvalidEdit", *fault)

    def apply_batch(self, edits):
        self.told = self.told + ["batch"]
        fault = edits_fault(self.costs(), edits)
        if fault is None:
            return self.add_edits(edits)
        self.told = self.told + ["aborted"]
        return ("BatchAborted", *fault)

    def set_cost(self, line, cost):
        costs = list(self.costs())
        if type(line) is not int or line not in range(len(costs)):
            return ("UnknownLine",)
        if cost is not None and (type(cost) is not int or cost not in range(1, 100)):
            return ("InvalidCost",)
        costs[line] = cost
        self.add(costs, [0] * len(costs), 0)
        return ("returned", None)

    def undo(self):
        if self.entries:
            self.undone.append(self.entries.pop())
            return ("returned", True)
        return ("returned", False)

    def redo(self):
        if self.undone:
            self.entries.append(self.undone.pop())
            return ("returned", True)
        return ("returned", False)


def random_edit(source, lines):
    if source.random() < 0.08:
        return source.choice((*MALFORMED, (lines, 1)))
    delta = source.choice((source.randint(-3, 3), source.randint(-LIMIT, LIMIT), LIMIT, -LIMIT))
    return source.randrange(lines), delta


def random_batch(source, lines):
    if source.random() < 0.1:
        return source.choice(NO_LISTS)
    return [random_edit(source, lines) for _ in range(source.randint(0, 4))]


def random_goal(source, model):
    """Goals near the start, so that they are valid wherever the cells are by now."""
    if source.random() < 0.1:
        return source.choice(WRONG_GOALS)
    moved = model.shifts()
    shifts = [
        shift if cost is None else source.randint(-5, 5) for shift, cost in zip(moved, model.costs())
    ]
    goal = opened(source, shifted(model.start, shifts), source.choice((0, 0.3, 0.6, 1)))
    return spoilt(source, goal) if source.random() < 0.3 else goal


def random_call(source, model):
    lines = len(model.costs())
    method = source.choice((
        "apply", "apply", "apply", "solve", "solve", "set_cost", "set_cost", "apply_batch", "apply_batch",
        "undo", "undo", "redo",
    ))
    if method == "apply":
        return method, random_edit(source, lines)
    if method == "apply_batch":
        return method, random_batch(source, lines)
    if method == "solve":
        return method, random_goal(source, model)
    if method == "set_cost":
        line = source.choice((*range(lines), *range(lines), -1, lines, True, None, "0"))
        return method, line, source.choice((1, 2, 50, 99, None, None, 0, 100, True, "1"))
    return (method,)


class Editors(unittest.TestCase):
    def solved(self, editor, model, goal):
        """Check what solve does; tell the model which of the best solutions it took."""
        table = model.table()
        before = editor.shifts()
        found = outcome(editor.solve, goal)
        fault = goal_fault(table[0], goal)
        best = total_best_cost(table, goal) if fault is None else None
        if fault is not None:
            self.assertEqual(found, ("InvalidGoal", *fault))
        elif best is None:
            self.assertEqual(found, ("NoSolution",))
        else:
            self.assertEqual(found, ("returned", best))
            moved = [new - old for new, old in zip(editor.shifts(), before)]
            self.assertTrue(reaches(table, goal, moved))
            self.assertEqual(cost_of(table, moved), best)
            if table_fault(table) is None:
                self.assertEqual(minimum_cost(table, goal), (best, moved))
            model.add(model.costs(), moved, best)
        return found

    def called(self, editor, model, method, arguments):
        if method == "solve":
            return self.solved(editor, model, *arguments)
        found = outcome(getattr(editor, method), *arguments)
        self.assertEqual(found, getattr(model, method)(*arguments))
        return found

    def run_calls(self, source, counts):
        table = random_table(source, source.randint(1, 5), source.randint(1, 5), source.choice((0, 0.2, 0.5)))
        editor, model = Editor(table), Model(table)
        # An untouched editor of the same table shows whether they share anything.
        other = Editor(table)
        for _ in range(source.randint(1, 40)):
            method, *arguments = random_call(source, model)
            with self.subTest(table=model.table(), method=method, arguments=arguments):
                beyond = table_fault(model.table()) is not None
                found = self.called(editor, model, method, arguments)
                self.assertEqual(shown(editor), model.shown())
                self.assertEqual(shown(editor), model.shown())
                key = (method, *found[:1], beyond)
                counts[key] = counts.get(key, 0) + 1
        self.back_and_forward(editor, model)
        self.assertEqual(shown(other), Model(table).shown())

    def back_and_forward(self, editor, model):
        while model.redo()[1]:
            self.assertIs(editor.redo(), True)
            self.assertEqual(shown(editor), model.shown())
        self.assertIs(editor.redo(), False)
        while model.undo()[1]:
            self.assertIs(editor.undo(), True)
            self.assertEqual(shown(editor), model.shown())
        self.assertIs(editor.undo(), False)
        self.assertEqual(editor.table(), model.start)
        while model.redo()[1]:
            self.assertIs(editor.redo(), True)
            self.assertEqual(shown(editor), model.shown())
        self.assertIs(editor.redo(), False)
        self.assertEqual(shown(editor), model.shown())

    def test_random_calls(self):
        source = random.Random(51)
        counts = {}
        for _ in range(400):
            self.run_calls(source, counts)
        expected = {
            (method, result, beyond)
            for beyond in (False, True)
            for method, results in (
                ("apply", ("returned", "InvalidEdit")), ("apply_batch", ("returned", "BatchAborted")),
                ("solve", ("returned", "InvalidGoal", "NoSolution")),
                ("set_cost", ("returned", "UnknownLine", "InvalidCost")),
                ("undo", ("returned",)), ("redo", ("returned",)),
            )
            for result in results
        }
        self.assertEqual(set(counts), expected)
        self.assertGreater(min(counts.values()), 20)
