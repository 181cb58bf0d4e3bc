"""The minimum cost of reaching a goal.

In a component of the graph the shift of one line settles all others: if the first line moves
up by one, all rows of the component do and all columns move down by one. The cost is
therefore a convex function of the shift of the first line, with a bend where a line stands still.
"""

from crosslift.components import (
    anchor_line, build_graph, contradiction_in_graph, group_lines, shifts_in_tree, tree_from,
)
from crosslift.errors import NoSolution
from crosslift.tables import check_goal, check_table, line_costs


def first_bend(bends, wanted):
    """The first bend up to which the costs, taken twice, reach what is wanted."""
    passed = 0
    at = 0
    while passed < wanted:
        passed += 2 * bends[at][1]
        at += 1
    return bends[at - 1][0]


def cheapest_range(bends):
    """The smallest and the largest point at which a sum of weighted distances is least.

    The bends are sorted pairs of a point and its weight.
    """
    total = sum([weight for _, weight in bends])
    return first_bend(bends, total), first_bend(bends, total + 1)


def first_line_range(graph, costs, rows, group):
    """The smallest and the largest optimal shift of the first line of the component."""
    first = group[0]
    anchor = anchor_line(costs, group)
    shifts = shifts_in_tree(graph, tree_from(graph, anchor), 0)
    if costs[anchor] is None:
        return shifts[first], shifts[first]
    bends = [(-shifts[line] if line < rows else shifts[line], costs[line]) for line in group]
    return cheapest_range(sorted(bends))


def cheapest_shifts(cells, costs, goal):
    """The minimum cost and the shift of each line in a solution of that cost, or None."""
    graph = build_graph(cells, goal)
    if contradiction_in_graph(graph, costs) is not None:
        return None
    shifts = [0] * len(costs)
    for group in group_lines(graph):
        low = first_line_range(graph, costs, len(cells), group)[0]
        settled = shifts_in_tree(graph, tree_from(graph, group[0]), low)
        for line in group:
            shifts[line] = settled[line]
    total = sum([abs(shift) * cost for shift, cost in zip(shifts, costs) if cost is not None])
    return total, shifts


def shifts_to_goal(cells, costs, goal):
    """The minimum cost and the shift of each line; NoSolution if the goal is unreachable."""
    found = cheapest_shifts(cells, costs, goal)
    if found is None:
        raise NoSolution("the goal is unreachable")
    return found


def minimum_cost(table, goal):
    """The minimum cost and the shift of each line in a solution of that cost, or None."""
    check_table(table)
    check_goal(table[0], goal)
    return cheapest_shifts(table[0], line_costs(table), goal)


def minimum_steps(table, goal):
    """The minimum cost if every cost were 1, or None."""
    check_table(table)
    check_goal(table[0], goal)
    costs = [None if cost is None else 1 for cost in line_costs(table)]
    found = cheapest_shifts(table[0], costs, goal)
    if found is None:
        return None
    return found[0]


def optimal_ranges(table, goal):
    """For each component the smallest and the largest optimal shift of its first line."""
    check_table(table)
    check_goal(table[0], goal)
    graph = build_graph(table[0], goal)
    costs = line_costs(table)
    if contradiction_in_graph(graph, costs) is not None:
        raise NoSolution("the goal is unreachable")
    rows = len(table[0])
    return [first_line_range(graph, costs, rows, group) for group in group_lines(graph)]
