"""What several tests need: samples, and answers computed in another way than the program does."""

import unittest

from crosslift.errors import LiftError

LIMIT = 1000000
TABLE = (((0, 0), (0, 0)), (3, 5), (4, None))
SQUARE = (((0, 0), (0, 0)), (3, 3), (3, 3))
SMALL = (((0,),), (3,), (3,))
MALFORMED = (
    None, True, False, 3, "", "ab", "01", [], [0, 1], (), (0,), (0, 1, 2), (0, None), (0, True),
    (0, False), (0, "1"), (0, [1]), (0, LIMIT + 1), (0, -LIMIT - 1), (None, 1), (True, 1),
    (False, 1), ("0", 1), ((0,), 1), ([0], 1), (-1, 1), (99, 1),
)
NO_LISTS = (None, True, False, 0, 7, "", "abc", (), ((0, 1),), (0, 1), ((3, 1),))

ATTRIBUTES = {
    "InvalidTable": ("part", "index"),
    "InvalidGoal": ("row", "column"),
    "InvalidEdit": ("index", "reason"),
    "BatchAborted": ("index", "reason"),
    "InvalidCertificate": ("index",),
    "UnbalancedCertificate": ("index",),
    "NoSolution": (),
    "UnknownLine": (),
    "InvalidCost": (),
    "ParseError": ("row",),
}


def outcome(function, *arguments):
    """What the call returned, or the name of its exception and the attributes of that."""
    try:
        return ("returned", function(*arguments))
    except LiftError as error:
        name = type(error).__name__
        return (name, *[getattr(error, attribute) for attribute in ATTRIBUTES[name]])


def all_costs(table):
    return list(table[1] + table[2])


def number_is_valid(value):
    return type(value) is int and abs(value) <= LIMIT


def row_is_valid(row, width):
    return type(row) is tuple and len(row) == width and all(map(number_is_valid, row))


def costs_fault(costs, length):
    """The index of the first entry of the costs that is wrong, or None."""
    if type(costs) is not tuple:
        return 0
    for index in range(max(length, len(costs))):
        if index >= min(length, len(costs)):
            return index
        if costs[index] is not None and not (type(costs[index]) is int and costs[index] in range(1, 100)):
            return index
    return None


def table_fault(table):
    """The part and the index that InvalidTable must have, or None for a valid table."""
    if type(table) is not tuple or len(table) != 3:
        return (-1, 0)
    cells, row_costs, column_costs = table
    if type(cells) is not tuple or cells == ():
        return (0, 0)
    width = len(cells[0]) if type(cells[0]) is tuple else 0
    bad = [row for row in range(len(cells)) if row > 6 or not row_is_valid(cells[row], width)]
    if width not in range(1, 8):
        bad = [0]
    if bad:
        return (0, bad[0])
    for part, costs, length in ((1, row_costs, len(cells)), (2, column_costs, width)):
        index = costs_fault(costs, length)
        if index is not None:
            return (part, index)
    return None


def goal_fault(cells, goal):
    """The row and the column that InvalidGoal must have, or None for a valid goal."""
    if type(goal) is not tuple:
        return (0, 0)
    width = len(cells[0])
    for row in range(max(len(cells), len(goal))):
        if row >= min(len(cells), len(goal)) or type(goal[row]) is not tuple:
            return (row, 0)
        for column in range(max(width, len(goal[row]))):
            if column >= min(width, len(goal[row])):
                return (row, column)
            if goal[row][column] is not None and not number_is_valid(goal[row][column]):
                return (row, column)
    return None


def edits_fault(costs, edits):
    """The index and the reason that InvalidEdit must have, or None for valid edits."""
    if type(edits) is not list:
        return (0, "malformed")
    for index, edit in enumerate(edits):
        if type(edit) is not tuple or [type(item) for item in edit] != [int, int]:
            return (index, "malformed")
        if edit[0] not in range(len(costs)) or abs(edit[1]) > LIMIT:
            return (index, "malformed")
        if costs[edit[0]] is None:
            return (index, "locked")
    return None


def gaps(table, goal):
    """A dict from (row line, column line) to the gap of their specified cell."""
    cells = table[0]
    return {
        (row, len(cells) + column): goal[row][column] - cells[row][column]
        for row in range(len(cells))
        for column in range(len(cells[0]))
        if goal[row][column] is not None
    }


def gap_between(table, goal, one, two):
    """The gap of the edge between two lines, or None if there is no edge."""
    return gaps(table, goal).get((min(one, two), max(one, two)))


def union_of_lines(table, goal):
    """The components, by giving both lines of each edge the smaller label until nothing changes."""
    labels = list(range(len(all_costs(table))))
    changed = True
    while changed:
        changed = False
        for row, column in gaps(table, goal):
            if labels[row] != labels[column]:
                labels[row] = labels[column] = min(labels[row], labels[column])
                changed = True
    return [
        [line for line in range(len(labels)) if labels[line] == label]
        for label in sorted(set(labels))
    ]


def reaches(table, goal, shifts):
    """Whether the shifts reach the goal and leave the locked lines where they are."""
    held = all(shift == 0 for shift, cost in zip(shifts, all_costs(table)) if cost is None)
    return held and all(
        shifts[row] + shifts[column] == gap for (row, column), gap in gaps(table, goal).items()
    )


def cost_of(table, shifts):
    return sum(abs(shift) * cost for shift, cost in zip(shifts, all_costs(table)) if cost is not None)


def pinned_cost(table, goal, group, line, shift):
    """The cost of a component if the line has this shift, or None if it can't have it."""
    edges = {edge: gap for edge, gap in gaps(table, goal).items() if edge[0] in group}
    shifts = {line: shift}
    while len(shifts) < len(group):
        for (row, column), gap in edges.items():
            if row in shifts:
                shifts.setdefault(column, gap - shifts[row])
            elif column in shifts:
                shifts[row] = gap - shifts[column]
    if any(shifts[row] + shifts[column] != gap for (row, column), gap in edges.items()):
        return None
    costs = all_costs(table)
    if any(costs[member] is None and shifts[member] != 0 for member in group):
        return None
    return sum(abs(shifts[member]) * (costs[member] or 0) for member in group)


def best_cost(table, goal, group):
    """The minimum cost of a component, or None: some line stands still in some best solution."""
    found = [pinned_cost(table, goal, group, line, 0) for line in group]
    return min([cost for cost in found if cost is not None], default=None)


def total_best_cost(table, goal):
    """The minimum cost, or None."""
    found = [best_cost(table, goal, group) for group in union_of_lines(table, goal)]
    return None if None in found else sum(found)


def contradicts(table, goal, path):
    """Whether a list of lines is a contradiction."""
    count = len(all_costs(table))
    if len(path) < 2 or not all(line in range(count) for line in path):
        return False
    found = [gap_between(table, goal, one, two) for one, two in zip(path, path[1:])]
    if None in found:
        return False
    signed = sum(gap if at % 2 == 0 else -gap for at, gap in enumerate(reversed(found)))
    locked = [cost is None for cost in all_costs(table)]
    ends_match = path[0] == path[-1] or (locked[path[0]] and locked[path[-1]])
    return signed != 0 and ends_match


def random_table(source, rows, columns, locked=0.2, largest=20):
    def cost():
        return None if source.random() < locked else source.choice((1, 99, source.randint(1, 99), 3))

    cells = tuple(
        tuple(source.randint(-largest, largest) for _ in range(columns)) for _ in range(rows)
    )
    return cells, tuple(cost() for _ in range(rows)), tuple(cost() for _ in range(columns))


def shifted(table, shifts):
    rows = len(table[0])
    return tuple(
        tuple(value + shifts[row] + shifts[rows + column] for column, value in enumerate(values))
        for row, values in enumerate(table[0])
    )


def opened(source, cells, share):
    """A goal of these cells, of which about this share is open."""
    return tuple(
        tuple(None if source.random() < share else value for value in values) for values in cells
    )


def reachable_goal(source, table, share, largest=9):
    costs = all_costs(table)
    shifts = [0 if cost is None else source.randint(-largest, largest) for cost in costs]
    return opened(source, shifted(table, shifts), share)


def spoilt(source, goal):
    """The goal with another value in one specified cell, if it has any."""
    places = [
        (row, column)
        for row, entries in enumerate(goal)
        for column, entry in enumerate(entries)
        if entry is not None
    ]
    if not places:
        return goal
    row, column = source.choice(places)
    rows = [list(entries) for entries in goal]
    rows[row][column] += source.choice((-1, 1, 7))
    return tuple(tuple(entries) for entries in rows)


def another_solution(source, table, goal, shifts):
    """A solution: each component without a locked line is moved by some number."""
    moved = list(shifts)
    for group in union_of_lines(table, goal):
        if None not in [all_costs(table)[line] for line in group]:
            by = source.randint(-LIMIT, LIMIT)
            for line in group:
                moved[line] += by if line < len(table[0]) else -by
    return moved


def random_cases(source, count, largest_side=7):
    """Pairs of a table and a goal: goals with open cells, full goals, and spoilt ones."""
    cases = []
    for number in range(count):
        rows = source.randint(1, largest_side)
        columns = source.randint(1, largest_side)
        table = random_table(source, rows, columns, source.choice((0, 0.1, 0.4, 0.8)))
        goal = reachable_goal(source, table, source.choice((0, 0.3, 0.6, 0.8, 1)))
        if number % 3 == 2:
            goal = spoilt(source, goal)
        cases.append((table, goal))
    return cases


def shown(editor):
    """All that an editor tells of itself."""
    return [editor.table(), editor.total_cost(), editor.shifts(), editor.length(), editor.events()]


class EditorCase(unittest.TestCase):
    """What tests of editors check."""

    def check(self, editor, table, total, shifts, length):
        """What the editor shows, twice."""
        expected = [table, total, shifts, length]
        self.assertEqual(shown(editor)[:4], expected)
        self.assertEqual(shown(editor)[:4], expected)

    def fails(self, editor, expected, method, *arguments):
        """The call raises and changes nothing."""
        before = shown(editor)
        with self.subTest(arguments=arguments):
            self.assertEqual(outcome(getattr(editor, method), *arguments), expected)
            self.assertEqual(shown(editor), before)
