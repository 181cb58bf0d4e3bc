"""The exceptions of the package."""


class LiftError(ValueError):
    """The base class of all exceptions of the package."""


class InvalidTable(LiftError):
    """A part of a table is invalid: -1 the whole, 0 cells, 1 row costs, 2 column costs."""

    def __init__(self, part, index):
        super().__init__(f"invalid table: part {part}, index {index}")
        self.part = part
        self.index = index


class InvalidGoal(LiftError):
    """An entry of a goal is invalid, missing or superfluous."""

    def __init__(self, row, column):
        super().__init__(f"invalid goal: row {row}, column {column}")
        self.row = row
        self.column = column


class InvalidEdit(LiftError):
    """An edit is malformed, or its line is locked."""

    def __init__(self, index, reason):
        super().__init__(f"invalid edit {index}: {reason}")
        self.index = index
        self.reason = reason


class BatchAborted(LiftError):
    """A batch holds an invalid edit, and nothing of it was applied."""

    def __init__(self, index, reason):
        super().__init__(f"batch aborted by edit {index}: {reason}")
        self.index = index
        self.reason = reason


class InvalidCertificate(LiftError):
    """A weight of a certificate is invalid, missing or superfluous."""

    def __init__(self, index):
        super().__init__(f"invalid certificate: weight {index}")
        self.index = index


class UnbalancedCertificate(LiftError):
    """The weights of the rows and of the columns of a component differ in their sums."""

    def __init__(self, index):
        super().__init__(f"unbalanced certificate: component {index}")
        self.index = index


class NoSolution(LiftError):
    """The goal is unreachable."""


class UnknownLine(LiftError):
    """There is no such line."""


class InvalidCost(LiftError):
    """A cost is neither an integer in its range nor None."""


class ParseError(LiftError):
    """A line of text does not follow the grammar, comes too late or is missing."""

    def __init__(self, row):
        super().__init__(f"line {row} of the text is wrong or missing")
        self.row = row
