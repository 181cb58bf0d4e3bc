import random
import unittest

from crosslift.certificates import lower_bound, optimal_certificate
from crosslift.solver import minimum_cost
from tests.helpers import (
    LIMIT, SMALL, SQUARE, TABLE, all_costs, another_solution, cost_of, outcome, random_cases, reaches,
    union_of_lines,
)

UNREACHABLE = ((1, 0), (0, 0))
# One component of all lines but the last row, which is one of its own.
WIDE = (((0, 0), (0, 0), (0, 0)), (3, None, 7), (4, 5))
WIDE_GOAL = ((1, 2), (3, None), (None, None))


def limits(table):
    return [LIMIT if cost is None else cost for cost in all_costs(table)]


def excess(table, group, weights):
    rows = len(table[0])
    return sum(weights[line] if line < rows else -weights[line] for line in group)


def certificate_outcome(table, goal, weights):
    """What lower_bound must return or raise, for a reachable goal."""
    most = limits(table)
    if type(weights) is not list:
        return ("InvalidCertificate", 0)
    for index in range(max(len(most), len(weights))):
        if index >= min(len(most), len(weights)):
            return ("InvalidCertificate", index)
        if type(weights[index]) is not int or abs(weights[index]) > most[index]:
            return ("InvalidCertificate", index)
    for index, group in enumerate(union_of_lines(table, goal)):
        if excess(table, group, weights) != 0:
            return ("UnbalancedCertificate", index)
    shifts = minimum_cost(table, goal)[1]
    return ("returned", sum(weight * shift for weight, shift in zip(weights, shifts)))


def random_balanced(source, table, goal):
    """A balanced certificate: random weights, each lowered until its component is balanced."""
    rows = len(table[0])
    most = limits(table)
    weights = [source.choice((source.randint(-limit, limit), limit, -limit, 0)) for limit in most]
    for group in union_of_lines(table, goal):
        over = excess(table, group, weights)
        for line in source.sample(group, len(group)):
            sign = 1 if line < rows else -1
            wanted = weights[line] - sign * over
            kept = max(-most[line], min(most[line], wanted))
            over += sign * (kept - weights[line])
            weights[line] = kept
        if over != 0:
            for line in group:
                weights[line] = 0
    return weights


class LowerBound(unittest.TestCase):
    def check(self, table, goal, weights, expected):
        with self.subTest(table=table, goal=goal, weights=weights):
            before = list(weights) if type(weights) is list else weights
            self.assertEqual(outcome(lower_bound, table, goal, weights), expected)
            self.assertEqual(weights, before)
            self.assertEqual(outcome(lower_bound, table, goal, weights), expected)

    def test_weighted_sums(self):
        self.check(SMALL, ((4,),), [3, 3], ("returned", 12))
        self.check(SMALL, ((4,),), [2, 2], ("returned", 8))
        self.check(SMALL, ((4,),), [-3, -3], ("returned", -12))
        self.check(SMALL, ((4,),), [0, 0], ("returned", 0))
        self.check((((1,),), (9,), (None,)), ((4,),), [9, 9], ("returned", 27))
        self.check(SQUARE, ((5, None), (None, -2)), [3, -3, 3, -3], ("returned", 21))
        self.check(SQUARE, ((5, None), (None, -2)), [3, 1, 3, 1], ("returned", 13))
        self.check(SQUARE, ((1, 2), (3, 4)), [-2, 3, 0, 1], ("returned", 8))

    def test_nothing_specified(self):
        goal = ((None, None), (None, None))
        self.check(SQUARE, goal, [0, 0, 0, 0], ("returned", 0))
        for line in range(4):
            weights = [0, 0, 0, 0]
            weights[line] = 1
            self.check(SQUARE, goal, weights, ("UnbalancedCertificate", line))

    def test_limits_of_the_weights(self):
        most = [3, 5, 4, LIMIT]
        goal = TABLE[0]
        for line, limit in enumerate(most):
            for weight in (limit + 1, -limit - 1):
                weights = [0, 0, 0, 0]
                weights[line] = weight
                self.check(TABLE, goal, weights, ("InvalidCertificate", line))
            for weight in (limit, -limit):
                weights = [0, 0, 0, 0]
                weights[line] = weight
                self.check(TABLE, goal, weights, ("UnbalancedCertificate", 0))
        self.check(TABLE, goal, [3, 5, 4, 4], ("returned", 0))
        self.check(TABLE, goal, [-3, -5, -4, -4], ("returned", 0))
        table = (((2,),), (None,), (None,))
        self.check(table, ((2,),), [LIMIT, LIMIT], ("returned", 0))
        self.check(table, ((2,),), [-LIMIT, -LIMIT], ("returned", 0))
        self.check(table, ((2,),), [LIMIT, LIMIT + 1], ("InvalidCertificate", 1))

    def test_no_integers(self):
        for weight in (None, True, False, "", "1", [1], (1,), []):
            self.check(SQUARE, SQUARE[0], [weight, 1, 1, 1], ("InvalidCertificate", 0))
            self.check(SQUARE, SQUARE[0], [1, 1, weight, 1], ("InvalidCertificate", 2))
            self.check(SQUARE, SQUARE[0], [1, 1, 1, weight], ("InvalidCertificate", 3))
            self.check(SQUARE, SQUARE[0], [1, 1, 1, 1, weight], ("InvalidCertificate", 4))

    def test_not_a_list(self):
        for weights in (None, True, False, 0, 4, "", "0000", (), (0, 0, 0, 0)):
            self.check(SQUARE, SQUARE[0], weights, ("InvalidCertificate", 0))

    def test_missing_and_superfluous_weights(self):
        self.check(SQUARE, SQUARE[0], [], ("InvalidCertificate", 0))
        self.check(SQUARE, SQUARE[0], [1, 1, 1], ("InvalidCertificate", 3))
        self.check(SQUARE, SQUARE[0], [0, 0, 0, 0, 0], ("InvalidCertificate", 4))
        self.check(SQUARE, SQUARE[0], [0, 0, 0, 0, 0, 9], ("InvalidCertificate", 4))
        self.check(SQUARE, SQUARE[0], [0, 4, 0], ("InvalidCertificate", 1))
        self.check(SQUARE, SQUARE[0], [0, 4, 0, 0, 0], ("InvalidCertificate", 1))
        self.check(SMALL, SMALL[0], [0], ("InvalidCertificate", 1))

    def test_first_of_several(self):
        self.check(SQUARE, SQUARE[0], [0, 4, True, -4], ("InvalidCertificate", 1))
        self.check(SQUARE, SQUARE[0], [3, -3, None, 9], ("InvalidCertificate", 2))

    def test_unbalanced_components(self):
        self.check(WIDE, WIDE_GOAL, [3, 5, 0, 4, 4], ("returned", 22))
        self.check(WIDE, WIDE_GOAL, [3, 5, 1, 4, 4], ("UnbalancedCertificate", 1))
        self.check(WIDE, WIDE_GOAL, [3, 5, 1, 4, 3], ("UnbalancedCertificate", 0))
        self.check(WIDE, WIDE_GOAL, [3, 5, 0, -4, -4], ("UnbalancedCertificate", 0))
        goal = ((5, None), (None, -2))
        self.check(SQUARE, goal, [1, 2, 2, 1], ("UnbalancedCertificate", 0))
        self.check(SQUARE, goal, [1, 2, 1, 1], ("UnbalancedCertificate", 1))
        self.check(SQUARE, goal, [2, 2, 1, 2], ("UnbalancedCertificate", 0))

    def test_order_of_the_exceptions(self):
        for weights in ([0, 0, 0, 0], [1, 2, 3, 3], [True], [], None, "", (0, 0, 0, 0)):
            self.check(SQUARE, UNREACHABLE, weights, ("NoSolution",))
        goal = ((5, None), (None, -2))
        self.check(SQUARE, goal, [1, 2, 2, 4], ("InvalidCertificate", 3))
        self.check(SQUARE, goal, [1, 2, 2], ("InvalidCertificate", 3))
        self.check(SQUARE, goal, [1, 2, 2, 0, 0], ("InvalidCertificate", 4))

    def test_random_certificates(self):
        source = random.Random(21)
        seen = {}
        for table, goal in random_cases(source, 500):
            most = limits(table)
            for way in range(4):
                weights = random_balanced(source, table, goal)
                if way == 1:
                    weights[source.randrange(len(weights))] += source.choice((-1, 1))
                elif way == 2:
                    at = source.randrange(len(weights))
                    weights[at] = source.choice((True, None, "1", most[at] + 1, -most[at] - 1))
                elif way == 3:
                    weights = source.choice((weights[:-1], [*weights, 0], tuple(weights), weights[:2]))
                expected = ("NoSolution",)
                if minimum_cost(table, goal) is not None:
                    expected = certificate_outcome(table, goal, weights)
                seen[expected[0]] = seen.get(expected[0], 0) + 1
                self.check(table, goal, weights, expected)
        self.assertEqual(len(seen), 4)
        self.assertGreater(min(seen.values()), 100)

    def test_no_balanced_certificate_exceeds_the_minimum_cost(self):
        source = random.Random(22)
        positive = 0
        for table, goal in random_cases(source, 300):
            found = minimum_cost(table, goal)
            if found is None:
                continue
            for _ in range(4):
                bound = lower_bound(table, goal, random_balanced(source, table, goal))
                self.assertLessEqual(bound, found[0])
                positive += bound > 0
        self.assertGreater(positive, 100)

    def test_the_same_for_every_solution(self):
        source = random.Random(23)
        moved = 0
        for table, goal in random_cases(source, 200):
            found = minimum_cost(table, goal)
            if found is None:
                continue
            shifts = another_solution(source, table, goal, found[1])
            self.assertTrue(reaches(table, goal, shifts))
            moved += shifts != found[1]
            weights = random_balanced(source, table, goal)
            expected = sum(weight * shift for weight, shift in zip(weights, shifts))
            self.assertEqual(lower_bound(table, goal, weights), expected)
            self.assertLessEqual(expected, cost_of(table, shifts))
        self.assertGreater(moved, 50)


class OptimalCertificate(unittest.TestCase):
    def check(self, table, goal):
        with self.subTest(table=table, goal=goal):
            found = minimum_cost(table, goal)
            if found is None:
                self.assertEqual(outcome(optimal_certificate, table, goal), ("NoSolution",))
                return False
            weights = optimal_certificate(table, goal)
            self.assertIs(type(weights), list)
            self.assertEqual(certificate_outcome(table, goal, weights), ("returned", found[0]))
            self.assertEqual(lower_bound(table, goal, weights), found[0])
            kept = list(weights)
            weights.append(1)
            weights[0] = None
            self.assertEqual(optimal_certificate(table, goal), kept)
            return True

    def test_plain_goals(self):
        self.check(SMALL, ((4,),))
        self.check(SMALL, ((-4,),))
        self.check(SMALL, ((0,),))
        self.check(SMALL, ((None,),))
        self.check(TABLE, ((2, 2), (None, None)))
        self.check(SQUARE, ((5, None), (None, -2)))
        self.check(WIDE, WIDE_GOAL)

    def test_only_choice(self):
        self.assertEqual(optimal_certificate(SMALL, ((4,),)), [3, 3])
        self.assertEqual(optimal_certificate(SMALL, ((-4,),)), [-3, -3])
        self.assertEqual(optimal_certificate((((0,),), (9,), (None,)), ((4,),)), [9, 9])
        self.assertEqual(optimal_certificate((((0,),), (None,), (9,)), ((-4,),)), [-9, -9])
        self.assertEqual(optimal_certificate((((0,),), (9,), (2,)), ((4,),)), [2, 2])

    def test_locked_line_that_carries_more_than_any_cost(self):
        table = (((0,) * 7,), (None,), (99,) * 7)
        self.assertEqual(optimal_certificate(table, ((5,) * 7,)), [693] + [99] * 7)
        self.assertEqual(optimal_certificate(table, ((-5,) * 7,)), [-693] + [-99] * 7)

    def test_unreachable(self):
        self.check(SQUARE, UNREACHABLE)
        self.check((((0,),), (None,), (None,)), ((1,),))

    def test_random_goals(self):
        counts = {True: 0, False: 0}
        for table, goal in random_cases(random.Random(24), 700):
            counts[self.check(table, goal)] += 1
        self.assertGreater(min(counts.values()), 100)

    def test_large_numbers(self):
        self.check((((-LIMIT, LIMIT),), (7,), (99, 98)), ((LIMIT, -LIMIT),))
        self.check((((-LIMIT,), (-LIMIT,)), (99, 99), (None,)), ((LIMIT,), (LIMIT,)))
