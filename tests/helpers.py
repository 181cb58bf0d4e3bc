"""What several tests need: samples, and answers computed in another way than the program does."""

from crosslift.errors import LiftError

LIMIT = 1000000
TABLE = (((0, 0), (0, 0)), (3, 5), (4, None))
SQUARE = (((0, 0), (0, 0)), (3, 3), (3, 3))
SMALL = (((0,),), (3,), (3,))

ATTRIBUTES = {
    "InvalidTable": ("part", "index"),
    "InvalidGoal": ("row", "column"),
    "InvalidEdit": ("index", "reason"),
    "NoSolution": (),
}


def outcome(function, *arguments):
    """What the call returned, or the name of its exception and the attributes of that."""
    try:
        return ("returned", function(*arguments))
    except LiftError as error:
        name = type(error).__name__
        return (name, *[getattr(error, attribute) for attribute in ATTRIBUTES[name]])


def all_costs(table):
    return list(table[1] + table[2])


def gaps(table, goal):
    """A dict from (row line, column line) to the gap of their specified cell."""
    cells = table[0]
    return {
        (row, len(cells) + column): goal[row][column] - cells[row][column]
        for row in range(len(cells))
        for column in range(len(cells[0]))
        if goal[row][column] is not None
    }


def gap_between(table, goal, one, two):
    """The gap of the edge between two lines, or None if there is no edge."""
    return gaps(table, goal).get((min(one, two), max(one, two)))


def union_of_lines(table, goal):
    """The components, by giving both lines of each edge the smaller label until nothing changes."""
    labels = list(range(len(all_costs(table))))
    changed = True
    while changed:
        changed = False
        for row, column in gaps(table, goal):
            if labels[row] != labels[column]:
                labels[row] = labels[column] = min(labels[row], labels[column])
                changed = True
    return [
        [line for line in range(len(labels)) if labels[line] == label]
        for label in sorted(set(labels))
    ]


def reaches(table, goal, shifts):
    """Whether the shifts reach the goal and leave the locked lines where they are."""
    held = all(shift == 0 for shift, cost in zip(shifts, all_costs(table)) if cost is None)
    return held and all(
        shifts[row] + shifts[column] == gap for (row, column), gap in gaps(table, goal).items()
    )


def cost_of(table, shifts):
    return sum(abs(shift) * cost for shift, cost in zip(shifts, all_costs(table)) if cost is not None)


def pinned_cost(table, goal, group, line, shift):
    """The cost of a component if the line has this shift, or None if it can't have it."""
    edges = {edge: gap for edge, gap in gaps(table, goal).items() if edge[0] in group}
    shifts = {line: shift}
    while len(shifts) < len(group):
        for (row, column), gap in edges.items():
            if row in shifts:
                shifts.setdefault(column, gap - shifts[row])
            elif column in shifts:
                shifts[row] = gap - shifts[column]
    if any(shifts[row] + shifts[column] != gap for (row, column), gap in edges.items()):
        return None
    costs = all_costs(table)
    if any(costs[member] is None and shifts[member] != 0 for member in group):
        return None
    return sum(abs(shifts[member]) * (costs[member] or 0) for member in group)


def best_cost(table, goal, group):
    """The minimum cost of a component, or None: some line stands still in some best solution."""
    found = [pinned_cost(table, goal, group, line, 0) for line in group]
    return min([cost for cost in found if cost is not None], default=None)


def contradicts(table, goal, path):
    """Whether a list of lines is a contradiction."""
    count = len(all_costs(table))
    if len(path) < 2 or not all(line in range(count) for line in path):
        return False
    found = [gap_between(table, goal, one, two) for one, two in zip(path, path[1:])]
    if None in found:
        return False
    signed = sum(gap if at % 2 == 0 else -gap for at, gap in enumerate(reversed(found)))
    locked = [cost is None for cost in all_costs(table)]
    ends_match = path[0] == path[-1] or (locked[path[0]] and locked[path[-1]])
    return signed != 0 and ends_match


def random_table(source, rows, columns, locked=0.2, largest=20):
    def cost():
        return None if source.random() < locked else source.choice((1, 99, source.randint(1, 99), 3))

    cells = tuple(
        tuple(source.randint(-largest, largest) for _ in range(columns)) for _ in range(rows)
    )
    return cells, tuple(cost() for _ in range(rows)), tuple(cost() for _ in range(columns))


def shifted(table, shifts):
    rows = len(table[0])
    return tuple(
        tuple(value + shifts[row] + shifts[rows + column] for column, value in enumerate(values))
        for row, values in enumerate(table[0])
    )


def opened(source, cells, share):
    """A goal of these cells, of which about this share is open."""
    return tuple(
        tuple(None if source.random() < share else value for value in values) for values in cells
    )


def reachable_goal(source, table, share, largest=9):
    costs = all_costs(table)
    shifts = [0 if cost is None else source.randint(-largest, largest) for cost in costs]
    return opened(source, shifted(table, shifts), share)


def spoilt(source, goal):
    """The goal with another value in one specified cell, if it has any."""
    places = [
        (row, column)
        for row, entries in enumerate(goal)
        for column, entry in enumerate(entries)
        if entry is not None
    ]
    if not places:
        return goal
    row, column = source.choice(places)
    rows = [list(entries) for entries in goal]
    rows[row][column] += source.choice((-1, 1, 7))
    return tuple(tuple(entries) for entries in rows)


def random_cases(source, count, largest_side=7):
    """Pairs of a table and a goal: goals with open cells, full goals, and spoilt ones."""
    cases = []
    for number in range(count):
        rows = source.randint(1, largest_side)
        columns = source.randint(1, largest_side)
        table = random_table(source, rows, columns, source.choice((0, 0.1, 0.4, 0.8)))
        goal = reachable_goal(source, table, source.choice((0, 0.3, 0.6, 0.8, 1)))
        if number % 3 == 2:
            goal = spoilt(source, goal)
        cases.append((table, goal))
    return cases
