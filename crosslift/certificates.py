"""Certificates: weights of the lines that prove that no solution costs less."""

from crosslift.components import build_graph, group_lines
from crosslift.errors import InvalidCertificate, UnbalancedCertificate
from crosslift.solver import shifts_to_goal
from crosslift.tables import LARGEST_NUMBER, check_goal, check_table, is_integer, line_costs


def largest_weights(costs):
    """The largest absolute value that the weight of each line may have."""
    return [LARGEST_NUMBER if cost is None else cost for cost in costs]


def first_wrong_weight(limits, weights):
    """The index of the first weight that is invalid, missing or superfluous, or None.

    What is not a list is wrong at 0.
    """
    if not isinstance(weights, list):
        return 0
    for index, weight in enumerate(weights):
        if index == len(limits) or not is_integer(weight, -limits[index], limits[index]):
            return index
    if len(weights) < len(limits):
        return len(weights)
    return None


def excess_of_rows(weights, rows, group):
    """The weights of the rows of the component minus the weights of its columns."""
    return sum([weights[line] if line < rows else -weights[line] for line in group])


def check_balance(weights, rows, groups):
    """Raise UnbalancedCertificate unless each component is balanced."""
    for index, group in enumerate(groups):
        if excess_of_rows(weights, rows, group) != 0:
            raise UnbalancedCertificate(index=index)


def lower_bound(table, goal, weights):
    """A cost that every solution has at least: the sum of weight times shift."""
    check_table(table)
    check_goal(table[0], goal)
    costs = line_costs(table)
    shifts = shifts_to_goal(table[0], costs, goal)[1]
    index = first_wrong_weight(largest_weights(costs), weights)
    if index is not None:
        raise InvalidCertificate(index=index)
    check_balance(weights, len(table[0]), group_lines(build_graph(table[0], goal)))
    return sum([weight * shift for weight, shift in zip(weights, shifts)])


def within(number, limit):
    """The number that is nearest to the given one and not beyond the limit on either side."""
    return max(-limit, min(limit, number))


def balanced_weights(shifts, limits, rows, group):
    """A dict from each line of the component to its weight in an optimal certificate."""
    weights = {}
    for line in group:
        # A line that moves needs its full weight, or its cost would not be in the bound.
        weights[line] = within(shifts[line] * limits[line], limits[line])
    excess = excess_of_rows(weights, rows, group)
    # The shifts are optimal, so the lines that stand still can make up for the excess.
    for line in group:
        if shifts[line] == 0:
            part = within(excess, limits[line])
            weights[line] = -part if line < rows else part
            excess -= part
    return weights


def optimal_certificate(table, goal):
    """Some balanced certificate whose lower bound is the minimum cost."""
    check_table(table)
    check_goal(table[0], goal)
    costs = line_costs(table)
    shifts = shifts_to_goal(table[0], costs, goal)[1]
    limits = largest_weights(costs)
    certificate = [0] * len(costs)
    for group in group_lines(build_graph(table[0], goal)):
        for line, weight in balanced_weights(shifts, limits, len(table[0]), group).items():
            certificate[line] = weight
    return certificate
