"""Tables as text."""

from crosslift.errors import ParseError
from crosslift.tables import check_table

CELLS = "cells"
ROWS = "rows"
COLUMNS = "columns"
LOCKED = "-"
MOST_DIGITS = 7


def format_line(word, entries):
    """The line of text with this first word and these entries."""
    return " ".join([word, *[LOCKED if entry is None else str(entry) for entry in entries]])


def format_table(table):
    """The text of the table."""
    check_table(table)
    cells, row_costs, column_costs = table
    lines = [format_line(CELLS, row) for row in cells]
    return "\n".join([*lines, format_line(ROWS, row_costs), format_line(COLUMNS, column_costs)])


def is_number_word(word):
    """Whether the word follows the grammar of an integer."""
    digits = word.removeprefix("-")
    if not digits.isdigit() or len(digits) > MOST_DIGITS:
        return False
    return word == "0" or not digits.startswith("0")


def follows(first, words):
    """Whether the words are a line that begins with the given first word."""
    if words[0] != first:
        return False
    may_lock = first != CELLS
    return all([is_number_word(word) or (may_lock and word == LOCKED) for word in words[1:]])


def first_words(lines):
    """The first word that each line of the text must have."""
    firsts = []
    for words in lines:
        if words[0] != CELLS:
            break
        firsts.append(CELLS)
    return [*firsts, ROWS, COLUMNS]


def check_lines(lines, firsts):
    """Raise ParseError unless there is a line for each of the first words, and no other one."""
    for row, words in enumerate(lines):
        if row == len(firsts) or not follows(firsts[row], words):
            raise ParseError(row=row)
    if len(lines) < len(firsts):
        raise ParseError(row=len(lines))


def read_entries(words):
    """The entries of a line that follows the grammar."""
    return tuple([None if word == LOCKED else int(word) for word in words[1:]])


def parse_table(text):
    """The table that the text tells."""
    lines = [line.split(" ") for line in text.split("\n")]
    check_lines(lines, first_words(lines))
    *cells, row_costs, column_costs = [read_entries(words) for words in lines]
    table = (tuple(cells), row_costs, column_costs)
    check_table(table)
    return table
