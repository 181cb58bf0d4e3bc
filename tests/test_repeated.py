"""Repeated calls: what the caller does with lists has no influence on later calls."""

import copy
import random
import unittest

from crosslift.certificates import lower_bound, optimal_certificate
from crosslift.components import components, find_contradiction, is_contradiction
from crosslift.editor import Editor
from crosslift.edits import apply_edits
from crosslift.queries import blocking_cells, forced_cells, lockable_lines
from crosslift.solver import minimum_cost, minimum_steps, optimal_ranges
from crosslift.text_format import format_table, parse_table
from tests.helpers import all_costs, outcome, random_cases, shown

WITH_GOAL = (
    components, find_contradiction, minimum_cost, minimum_steps, optimal_ranges,
    optimal_certificate, forced_cells, blocking_cells, lockable_lines,
)


def spoil(value):
    """Modify each list within the value."""
    if type(value) is tuple or type(value) is list:
        for item in value:
            spoil(item)
    if type(value) is list:
        value.reverse()
        value.append("spoilt")
        value[0] = None


class Functions(unittest.TestCase):
    def repeat(self, function, *arguments):
        given = copy.deepcopy(arguments)
        first = outcome(function, *arguments)
        kept = copy.deepcopy(first)
        spoil(first)
        self.assertEqual(arguments, given)
        self.assertEqual(outcome(function, *arguments), kept)
        return kept

    def test_each_twice(self):
        source = random.Random(61)
        for table, goal in random_cases(source, 150):
            with self.subTest(table=table, goal=goal):
                self.each_twice(source, table, goal)

    def each_twice(self, source, table, goal):
        first = [self.repeat(function, table, goal) for function in WITH_GOAL]
        lines = range(len(all_costs(table)))
        path = outcome(find_contradiction, table, goal)[1] or list(lines)
        self.repeat(is_contradiction, table, goal, path)
        weights = outcome(optimal_certificate, table, goal)
        for given in ([0 for _ in lines], weights[1] if len(weights) == 2 else []):
            self.repeat(lower_bound, table, goal, given)
        edits = [(source.choice(lines), source.randint(-5, 5)) for _ in range(4)]
        self.repeat(apply_edits, table, edits)
        self.repeat(format_table, table)
        self.repeat(parse_table, format_table(table))
        # Calls of other functions and with other arguments came between.
        self.assertEqual([outcome(function, table, goal) for function in WITH_GOAL], first)

    def test_cases_by_turns(self):
        cases = random_cases(random.Random(62), 60)
        first = [[outcome(function, *case) for case in cases] for function in WITH_GOAL]
        kept = copy.deepcopy(first)
        spoil(first)
        for case, number in [(case, number) for number, case in enumerate(cases)][::-1]:
            for at, function in enumerate(WITH_GOAL):
                self.assertEqual(outcome(function, *case), kept[at][number])


class Editors(unittest.TestCase):
    def test_two_editors_by_turns(self):
        source = random.Random(63)
        for table, goal in random_cases(source, 100):
            editors = (Editor(table), Editor(table))
            lines = len(all_costs(table))
            for _ in range(6):
                edit = (source.randrange(lines), source.randint(-5, 5))
                method, argument = source.choice((
                    ("apply", edit), ("apply_batch", [edit, edit]), ("solve", goal), ("undo", None), ("redo", None),
                ))
                arguments = [] if argument is None else [argument]
                found = []
                for editor in editors:
                    given = copy.deepcopy(arguments)
                    found.append(outcome(getattr(editor, method), *given))
                    self.assertEqual(given, arguments)
                    spoil(given)
                    before = copy.deepcopy(shown(editor))
                    spoil(shown(editor))
                    self.assertEqual(shown(editor), before)
                self.assertEqual(found[0], found[1])
                self.assertEqual(shown(editors[0]), shown(editors[1]))

    def test_spoilt_lists_and_the_way_back(self):
        source = random.Random(64)
        for table, goal in random_cases(source, 60):
            editor = Editor(table)
            states = []
            for number in range(5):
                line = source.randrange(len(all_costs(table)))
                if number % 2:
                    outcome(editor.solve, goal)
                else:
                    outcome(editor.apply_batch, [(line, source.randint(-5, 5))])
                if len(states) == editor.length() - 1:
                    states.append(copy.deepcopy(shown(editor)[:4]))
                spoil(shown(editor))
            for state in states[::-1]:
                self.assertEqual(shown(editor)[:4], state)
                editor.undo()
                spoil(shown(editor))
            for state in states:
                editor.redo()
                self.assertEqual(shown(editor)[:4], state)
                spoil(shown(editor))
