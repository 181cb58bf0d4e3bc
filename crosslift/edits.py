"""Edits: adding a number to every cell of a line."""

from crosslift.errors import InvalidEdit
from crosslift.tables import check_table, is_integer, is_number, line_costs


def edit_fault(costs, edit):
    """The reason for which the edit is invalid, or None."""
    if not isinstance(edit, tuple) or len(edit) != 2:
        return "malformed"
    line, delta = edit
    if not is_integer(line, 0, len(costs) - 1) or not is_number(delta):
        return "malformed"
    if costs[line] is None:
        return "locked"
    return None


def first_fault(costs, edits):
    """The index of the first invalid edit and the reason for it, or None.

    What is not a list is malformed at 0.
    """
    if not isinstance(edits, list):
        return 0, "malformed"
    for index, edit in enumerate(edits):
        reason = edit_fault(costs, edit)
        if reason is not None:
            return index, reason
    return None


def check_edits(costs, edits):
    """Raise InvalidEdit unless all edits are valid for lines of these costs."""
    fault = first_fault(costs, edits)
    if fault is not None:
        raise InvalidEdit(index=fault[0], reason=fault[1])


def sum_edits(costs, edits):
    """The total shift of each line, and the total cost of the edits."""
    shifts = [0] * len(costs)
    total = 0
    for line, delta in edits:
        shifts[line] += delta
        total += abs(delta) * costs[line]
    return shifts, total


def shift_cells(cells, shifts):
    """The cells after each line was shifted by its shift."""
    moved = []
    for row, values in enumerate(cells):
        moved.append(tuple([
            value + shifts[row] + shifts[len(cells) + column]
            for column, value in enumerate(values)
        ]))
    return tuple(moved)


def apply_edits(table, edits):
    """The cells after all edits, and the total cost of the edits."""
    check_table(table)
    costs = line_costs(table)
    check_edits(costs, edits)
    shifts, total = sum_edits(costs, edits)
    return shift_cells(table[0], shifts), total
