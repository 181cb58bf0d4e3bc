"""An editor: a table with a history of what was done to it."""

from crosslift.edits import check_edits, first_fault, shift_cells, sum_edits
from crosslift.errors import BatchAborted, InvalidCost, UnknownLine
from crosslift.solver import shifts_to_goal
from crosslift.tables import check_goal, check_table, is_cost, is_integer, line_costs


class State:
    """What stands after some entries of a history. It never changes once it is made."""

    def __init__(self, cells, costs, moved, spent):
        self.cells = cells
        self.costs = costs
        self.moved = moved
        self.spent = spent


class Editor:
    """Keeps a table and a history of entries that can be undone and redone."""

    def __init__(self, table):
        check_table(table)
        costs = line_costs(table)
        # The first state stands before all entries; those behind the current one are undone.
        self._states = [State(table[0], costs, [0] * len(costs), 0)]
        self._current = 0
        self._happened = []

    def _state(self):
        """The state after all entries of the history."""
        return self._states[self._current]

    def _add_entry(self, state):
        """Add an entry that leads to this state; what was undone can't be redone any more."""
        self._states = [*self._states[:self._current + 1], state]
        self._current += 1

    def _add_shifts(self, shifts, cost):
        """Add an entry with the shift of each line, and return its cost."""
        before = self._state()
        moved = [total + shift for total, shift in zip(before.moved, shifts)]
        cells = shift_cells(before.cells, shifts)
        self._add_entry(State(cells, before.costs, moved, before.spent + cost))
        return cost

    def apply(self, edit):
        """Apply one edit and return its cost."""
        costs = self._state().costs
        check_edits(costs, [edit])
        shifts, cost = sum_edits(costs, [edit])
        return self._add_shifts(shifts, cost)

    def apply_batch(self, edits):
        """Apply all edits as a single entry, or none of them, and return their cost."""
        costs = self._state().costs
        self._happened.append("batch")
        fault = first_fault(costs, edits)
        if fault is not None:
            self._happened.append("aborted")
            raise BatchAborted(index=fault[0], reason=fault[1])
        shifts, cost = sum_edits(costs, edits)
        return self._add_shifts(shifts, cost)

    def solve(self, goal):
        """Reach the goal at the minimum cost, and return the cost."""
        state = self._state()
        # Only the goal is checked: edits may have brought cells beyond the limits of a table.
        check_goal(state.cells, goal)
        cost, shifts = shifts_to_goal(state.cells, state.costs, goal)
        return self._add_shifts(shifts, cost)

    def set_cost(self, line, cost):
        """Change the cost of a line; None locks it."""
        state = self._state()
        if not is_integer(line, 0, len(state.costs) - 1):
            raise UnknownLine("there is no such line")
        if not is_cost(cost):
            raise InvalidCost("a cost is an integer from 1 to 99, or None")
        costs = list(state.costs)
        costs[line] = cost
        self._add_entry(State(state.cells, costs, state.moved, state.spent))

    def undo(self):
        """Revert the last entry; whether there was one."""
        if self._current == 0:
            return False
        self._current -= 1
        return True

    def redo(self):
        """Restore the entry that was undone last; whether there was one."""
        if self._current == len(self._states) - 1:
            return False
        self._current += 1
        return True

    def table(self):
        """The current table, whose cells may be any integers."""
        state = self._state()
        rows = len(state.cells)
        return state.cells, tuple(state.costs[:rows]), tuple(state.costs[rows:])

    def total_cost(self):
        """The cost of all entries, at the costs that were valid when they were added."""
        return self._state().spent

    def shifts(self):
        """The total shift of each line over the history."""
        return list(self._state().moved)

    def length(self):
        """The number of entries of the history."""
        return self._current

    def events(self):
        """What became of all batches so far; undo takes nothing of it away."""
        return list(self._happened)
