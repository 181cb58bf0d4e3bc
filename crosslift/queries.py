"""Questions about a goal: which cells it forces, which cells block it, which lines it needs."""

from crosslift.components import anchor_line, build_graph, contradiction_in_graph, group_lines
from crosslift.edits import shift_cells
from crosslift.solver import cheapest_shifts, shifts_to_goal
from crosslift.tables import check_goal, check_table, line_costs

SETTLED = -1


def dependence_labels(graph, costs):
    """A label for each line: the shifts of two lines of one label depend on each other.

    A locked line settles the shifts of its whole component, so all such components have the
    same label.
    """
    labels = [SETTLED] * len(costs)
    for group in group_lines(graph):
        if costs[anchor_line(costs, group)] is not None:
            for line in group:
                labels[line] = group[0]
    return labels


def forced_cells(table, goal):
    """The open cells that have the same final value in every solution, with that value."""
    check_table(table)
    check_goal(table[0], goal)
    cells = table[0]
    costs = line_costs(table)
    final = shift_cells(cells, shifts_to_goal(cells, costs, goal)[1])
    labels = dependence_labels(build_graph(cells, goal), costs)
    forced = []
    for row, entries in enumerate(goal):
        for column, entry in enumerate(entries):
            if entry is None and labels[row] == labels[len(cells) + column]:
                forced.append((row, column, final[row][column]))
    return forced


def is_reachable(cells, costs, goal):
    """Whether some shifts of the unlocked lines reach the goal."""
    return contradiction_in_graph(build_graph(cells, goal), costs) is None


def with_open_cell(goal, row, column):
    """The goal with one more open cell."""
    entries = goal[row]
    opened = (*entries[:column], None, *entries[column + 1:])
    return (*goal[:row], opened, *goal[row + 1:])


def blocking_cells(table, goal):
    """The specified cells that each on its own make the goal unreachable."""
    check_table(table)
    check_goal(table[0], goal)
    cells = table[0]
    costs = line_costs(table)
    if is_reachable(cells, costs, goal):
        return []
    blocking = []
    for row, entries in enumerate(goal):
        for column, entry in enumerate(entries):
            if entry is not None and is_reachable(cells, costs, with_open_cell(goal, row, column)):
                blocking.append((row, column))
    return blocking


def lockable_lines(table, goal):
    """The unlocked lines that could each be locked without a change of the minimum cost."""
    check_table(table)
    check_goal(table[0], goal)
    costs = line_costs(table)
    cheapest = shifts_to_goal(table[0], costs, goal)[0]
    lockable = []
    for line, cost in enumerate(costs):
        if cost is not None:
            found = cheapest_shifts(table[0], [*costs[:line], None, *costs[line + 1:]], goal)
            if found is not None and found[0] == cheapest:
                lockable.append(line)
    return lockable
