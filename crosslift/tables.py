"""What a valid table and a valid goal are."""

from crosslift.errors import InvalidGoal, InvalidTable

LARGEST_NUMBER = 1000000
LARGEST_COST = 99
LONGEST_SIDE = 7


def is_integer(value, low, high):
    """Whether the value is an integer from low to high."""
    # A bool is an int to Python, but not to the document.
    return isinstance(value, int) and not isinstance(value, bool) and low <= value <= high


def is_number(value):
    """Whether the value can be a cell, the goal of a cell or a delta."""
    return is_integer(value, -LARGEST_NUMBER, LARGEST_NUMBER)


def is_cost(value):
    """Whether the value can be the cost of a line; None locks it."""
    return value is None or is_integer(value, 1, LARGEST_COST)


def is_goal_entry(value):
    """Whether the value can be the entry of a goal for a cell; None leaves the cell open."""
    return value is None or is_number(value)


def is_row(row, length):
    """Whether the row is a tuple of so many valid integers."""
    return isinstance(row, tuple) and len(row) == length and all([is_number(value) for value in row])


def first_wrong_row(cells):
    """The index of the first row of the cells that is invalid, or None."""
    if not isinstance(cells, tuple) or len(cells) == 0:
        return 0
    first = cells[0]
    if not isinstance(first, tuple) or not 1 <= len(first) <= LONGEST_SIDE:
        return 0
    for index, row in enumerate(cells):
        if index == LONGEST_SIDE or not is_row(row, len(first)):
            return index
    return None


def first_wrong_entry(entries, length, is_valid):
    """The index of the first entry that is invalid, missing or superfluous, or None.

    What is not a tuple is wrong at 0.
    """
    if not isinstance(entries, tuple):
        return 0
    for index, entry in enumerate(entries):
        if index == length or not is_valid(entry):
            return index
    if len(entries) < length:
        return len(entries)
    return None


def check_costs(part, costs, length):
    """Raise InvalidTable for this part unless the costs are valid."""
    index = first_wrong_entry(costs, length, is_cost)
    if index is not None:
        raise InvalidTable(part=part, index=index)


def check_table(table):
    """Raise InvalidTable unless the table is valid."""
    if not isinstance(table, tuple) or len(table) != 3:
        raise InvalidTable(part=-1, index=0)
    cells, row_costs, column_costs = table
    index = first_wrong_row(cells)
    if index is not None:
        raise InvalidTable(part=0, index=index)
    check_costs(1, row_costs, len(cells))
    check_costs(2, column_costs, len(cells[0]))


def check_goal(cells, goal):
    """Raise InvalidGoal unless the goal is valid for these cells."""
    if not isinstance(goal, tuple):
        raise InvalidGoal(row=0, column=0)
    for row, entries in enumerate(goal):
        if row == len(cells):
            raise InvalidGoal(row=row, column=0)
        column = first_wrong_entry(entries, len(cells[0]), is_goal_entry)
        if column is not None:
            raise InvalidGoal(row=row, column=column)
    if len(goal) < len(cells):
        raise InvalidGoal(row=len(goal), column=0)


def line_costs(table):
    """The costs of all lines, rows first; None where a line is locked."""
    return [*table[1], *table[2]]
