"""The examples of the interface sections of the document."""

import unittest

from crosslift.components import components, find_contradiction, is_contradiction
from crosslift.edits import apply_edits
from crosslift.solver import minimum_cost, minimum_steps, optimal_ranges
from tests.helpers import SMALL, SQUARE, TABLE, outcome


class Examples(unittest.TestCase):
    def test_apply_edits(self):
        self.assertEqual(apply_edits(TABLE, [(0, 2), (2, -1)]), (((1, 2), (-1, 0)), 10))
        self.assertEqual(outcome(apply_edits, TABLE, [(0, 1), (3, 1)]), ("InvalidEdit", 1, "locked"))

    def test_components(self):
        self.assertEqual(components(TABLE, ((5, None), (None, 7))), [[0, 2], [1, 3]])
        self.assertEqual(outcome(components, (((0,),), (3,)), ((1,),)), ("InvalidTable", -1, 0))

    def test_is_contradiction(self):
        self.assertIs(is_contradiction(TABLE, ((1, 0), (0, 0)), [0, 2, 1, 3, 0]), True)

    def test_find_contradiction(self):
        goal = ((1, 0), (0, 0))
        self.assertIs(is_contradiction(TABLE, goal, find_contradiction(TABLE, goal)), True)

    def test_minimum_cost(self):
        self.assertEqual(minimum_cost(TABLE, ((2, 2), (None, None))), (6, [2, 0, 0, 0]))
        self.assertEqual(outcome(minimum_cost, SMALL, ((4, 5),)), ("InvalidGoal", 0, 1))

    def test_minimum_steps(self):
        self.assertEqual(minimum_steps(TABLE, ((2, 2), (None, None))), 2)

    def test_optimal_ranges(self):
        self.assertEqual(optimal_ranges(SMALL, ((4,),)), [(0, 4)])
        self.assertEqual(outcome(optimal_ranges, SQUARE, ((1, 0), (0, 0))), ("NoSolution",))


class Names(unittest.TestCase):
    """The parameters can be given by the names that the interface lists."""

    def test_parameters(self):
        goal = ((1, 0), (0, 0))
        self.assertEqual(apply_edits(table=TABLE, edits=[]), (TABLE[0], 0))
        self.assertEqual(components(table=TABLE, goal=goal), [[0, 1, 2, 3]])
        self.assertIs(is_contradiction(table=TABLE, goal=goal, path=[]), False)
        self.assertIsNotNone(find_contradiction(table=TABLE, goal=goal))
        self.assertIsNone(minimum_cost(table=TABLE, goal=goal))
        self.assertIsNone(minimum_steps(table=TABLE, goal=goal))
        self.assertEqual(optimal_ranges(table=SMALL, goal=((4,),)), [(0, 4)])

    def test_each_is_defined_in_its_file(self):
        for function, file in (
            (apply_edits, "edits"), (components, "components"), (is_contradiction, "components"),
            (find_contradiction, "components"), (minimum_cost, "solver"),
            (minimum_steps, "solver"), (optimal_ranges, "solver"),
        ):
            self.assertEqual(function.__module__, "crosslift." + file)
