"""The graph of the lines: its components and its contradictions.

The graph is a list with a dict for each line: from each line that a specified cell joins
to it, to the gap of that cell.
"""

from crosslift.tables import check_goal, check_table, is_integer, line_costs


def build_graph(cells, goal):
    """The graph whose nodes are the lines and whose edges are the specified cells."""
    graph = [{} for _ in range(len(cells) + len(cells[0]))]
    for row, entries in enumerate(goal):
        for column, entry in enumerate(entries):
            if entry is not None:
                line = len(cells) + column
                gap = entry - cells[row][column]
                graph[row][line] = gap
                graph[line][row] = gap
    return graph


def tree_from(graph, root):
    """A dict from each line that a path from the root reaches to the line before it.

    The root itself has None. Each line stands behind the line before it.
    """
    before = {root: None}
    reached = [root]
    at = 0
    while at < len(reached):
        line = reached[at]
        at += 1
        for other in graph[line]:
            if other not in before:
                before[other] = line
                reached.append(other)
    return before


def path_in_tree(tree, line):
    """The path from the root of the tree to the line."""
    backwards = [line]
    while tree[line] is not None:
        line = tree[line]
        backwards.append(line)
    return backwards[::-1]


def shifts_in_tree(graph, tree, root_shift):
    """A dict from each line of the tree to its shift, if the root has the given shift."""
    shifts = {}
    for line, before in tree.items():
        if before is None:
            shifts[line] = root_shift
        else:
            shifts[line] = graph[before][line] - shifts[before]
    return shifts


def group_lines(graph):
    """The connected components: sorted lists of lines, ordered by their first line."""
    groups = []
    grouped = set()
    for line in range(len(graph)):
        if line not in grouped:
            group = sorted(tree_from(graph, line))
            groups.append(group)
            for member in group:
                grouped.add(member)
    return groups


def anchor_line(costs, group):
    """The first locked line of the component, or its first line if none is locked."""
    for line in group:
        if costs[line] is None:
            return line
    return group[0]


def contradiction_in_group(graph, costs, group):
    """Some contradiction within the component, or None."""
    # If the anchor is locked, the paths that lead from it to other locked lines count, too.
    tree = tree_from(graph, anchor_line(costs, group))
    shifts = shifts_in_tree(graph, tree, 0)
    for line in group:
        if costs[line] is None and shifts[line] != 0:
            return path_in_tree(tree, line)
        for other, gap in graph[line].items():
            if shifts[line] + shifts[other] != gap:
                return path_in_tree(tree, line) + path_in_tree(tree, other)[::-1]
    return None


def contradiction_in_graph(graph, costs):
    """Some contradiction, or None if the goal is reachable."""
    for group in group_lines(graph):
        path = contradiction_in_group(graph, costs, group)
        if path is not None:
            return path
    return None


def is_path(graph, path):
    """Whether the argument is a list of at least two lines, each joined to the next one."""
    if not isinstance(path, list) or len(path) < 2:
        return False
    for line in path:
        if not is_integer(line, 0, len(graph) - 1):
            return False
    return all([after in graph[line] for line, after in zip(path, path[1:])])


def alternating_sum(graph, path):
    """The gap of the last edge, minus the gap of the edge before, and so on."""
    total = 0
    for line, after in zip(path, path[1:]):
        total = graph[line][after] - total
    return total


def components(table, goal):
    """The connected components: sorted lists of lines, ordered by their first line."""
    check_table(table)
    check_goal(table[0], goal)
    return group_lines(build_graph(table[0], goal))


def is_contradiction(table, goal, path):
    """Whether the path shows that the goal is unreachable."""
    check_table(table)
    check_goal(table[0], goal)
    graph = build_graph(table[0], goal)
    if not is_path(graph, path) or alternating_sum(graph, path) == 0:
        return False
    costs = line_costs(table)
    both_locked = costs[path[0]] is None and costs[path[-1]] is None
    return path[0] == path[-1] or both_locked


def find_contradiction(table, goal):
    """Some contradiction, or None if the goal is reachable."""
    check_table(table)
    check_goal(table[0], goal)
    return contradiction_in_graph(build_graph(table[0], goal), line_costs(table))
