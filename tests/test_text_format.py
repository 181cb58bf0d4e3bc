import random
import re
import unittest

from crosslift.text_format import format_table, parse_table
from tests.helpers import LIMIT, SMALL, TABLE, outcome, random_table, table_fault

NUMBER = "(0|-?[1-9][0-9]{0,6})"
CELLS = re.compile(f"cells( {NUMBER})*")
COSTS = (re.compile(f"rows( ({NUMBER}|-))*"), re.compile(f"columns( ({NUMBER}|-))*"))
TEXT = "cells 1 -2\ncells 3 4\nrows 3 -\ncolumns 99 1"
READ = (((1, -2), (3, 4)), (3, None), (99, 1))
GOOD_WORDS = ("0", "5", "-5", "10", "99", "100", "1000000", "-1000000", "9999999", "-9999999")
BAD_WORDS = (
    "", "-0", "00", "01", "-01", "007", "0000000", "00000001", "10000000", "-10000000", "99999999",
    "12345678901234567890", "+1", "+0", "--1", "1-", "-1-", "1.0", "1e3", "0x1", "1_0", "a", "1a",
    "a1", "None", "nan", "cells", "rows", "columns", "--", "_", "~", "(1)", "1,", "'1'", "*",
)


def read_outcome(text):
    """What parse_table must return or raise."""
    lines = text.split("\n")
    at = 0
    while at < len(lines) and CELLS.fullmatch(lines[at]):
        at += 1
    for pattern in COSTS:
        if at == len(lines) or not pattern.fullmatch(lines[at]):
            return ("ParseError", at)
        at += 1
    if at < len(lines):
        return ("ParseError", at)
    rows = [
        tuple(None if word == "-" else int(word) for word in line.split(" ")[1:]) for line in lines
    ]
    table = (tuple(rows[:-2]), rows[-2], rows[-1])
    fault = table_fault(table)
    return ("returned", table) if fault is None else ("InvalidTable", *fault)


class FormatTable(unittest.TestCase):
    def test_texts(self):
        self.assertEqual(format_table(SMALL), "cells 0\nrows 3\ncolumns 3")
        self.assertEqual(format_table(TABLE), "cells 0 0\ncells 0 0\nrows 3 5\ncolumns 4 -")
        self.assertEqual(format_table(READ), TEXT)
        table = (((-1, 10, LIMIT), (0, -LIMIT, 7)), (None, None), (None, 10, 99))
        self.assertEqual(
            format_table(table), "cells -1 10 1000000\ncells 0 -1000000 7\nrows - -\ncolumns - 10 99"
        )

    def test_largest_table(self):
        table = (((1, 2, 3, 4, 5, 6, 7),) * 7, (1,) * 7, (None,) * 7)
        expected = "cells 1 2 3 4 5 6 7\n" * 7 + "rows" + " 1" * 7 + "\ncolumns" + " -" * 7
        self.assertEqual(format_table(table), expected)
        self.assertEqual(parse_table(expected), table)

    def test_there_and_back(self):
        source = random.Random(41)
        for _ in range(500):
            rows, columns = source.randint(1, 7), source.randint(1, 7)
            table = random_table(source, rows, columns, source.choice((0, 0.3, 1)), source.choice((1, 30, LIMIT)))
            with self.subTest(table=table):
                text = format_table(table)
                self.assertIs(type(text), str)
                self.assertEqual(text.split("\n")[-1].split(" ")[0], "columns")
                self.assertEqual(len(text.split("\n")), rows + 2)
                self.assertEqual(read_outcome(text), ("returned", table))
                self.assertEqual(parse_table(text), table)
                self.assertEqual(format_table(parse_table(text)), text)
                self.assertEqual(format_table(table), text)


class ParseTable(unittest.TestCase):
    def check(self, text, expected):
        with self.subTest(text=text):
            self.assertEqual(read_outcome(text), expected)
            self.assertEqual(outcome(parse_table, text), expected)
            self.assertEqual(outcome(parse_table, text), expected)

    def wrong(self, text, row):
        self.check(text, ("ParseError", row))

    def test_valid(self):
        self.check(TEXT, ("returned", READ))
        self.check("cells 0\nrows 1\ncolumns -", ("returned", (((0,),), (1,), (None,))))

    def test_kinds_of_values(self):
        table = parse_table(TEXT)
        kinds = [type(table), *map(type, table), *map(type, table[0])]
        self.assertEqual(set(kinds), {tuple})
        self.assertEqual({type(value) for row in table[0] for value in row}, {int})

    def test_empty_text(self):
        self.wrong("", 0)
        self.wrong("\n", 0)
        self.wrong(" ", 0)
        self.wrong("\n" + TEXT, 0)

    def test_wrong_words(self):
        for word in BAD_WORDS:
            self.wrong(f"cells {word}\nrows 3\ncolumns 4", 0)
            self.wrong(f"cells 1\ncells {word}\nrows 3 3\ncolumns 4", 1)
            self.wrong(f"cells 1 {word} 2\nrows 3\ncolumns 4 4 4", 0)
            self.wrong(f"cells 1\nrows {word}\ncolumns 4", 1)
            self.wrong(f"cells 1\nrows 3 {word}\ncolumns 4", 1)
            self.wrong(f"cells 1\nrows 3\ncolumns {word}", 2)
            self.wrong(f"cells 1\nrows 3\ncolumns {word} 4", 2)

    def test_good_words(self):
        for word in GOOD_WORDS:
            value = int(word)
            table = (((value,),), (3,), (4,))
            fault = None if abs(value) <= LIMIT else ("InvalidTable", 0, 0)
            self.check(f"cells {word}\nrows 3\ncolumns 4", fault or ("returned", table))
            table = (((1,),), (value,), (4,))
            fault = None if value in range(1, 100) else ("InvalidTable", 1, 0)
            self.check(f"cells 1\nrows {word}\ncolumns 4", fault or ("returned", table))
            table = (((1,),), (3,), (value,))
            fault = None if value in range(1, 100) else ("InvalidTable", 2, 0)
            self.check(f"cells 1\nrows 3\ncolumns {word}", fault or ("returned", table))

    def test_no_lock_among_the_cells(self):
        self.wrong("cells -\nrows 3\ncolumns 4", 0)
        self.wrong("cells 1 -\nrows 3\ncolumns 4 4", 0)
        self.wrong("cells 1\ncells -\nrows 3 3\ncolumns 4", 1)

    def test_wrong_first_words(self):
        for word in ("", "cell", "Cells", "CELLS", "cells1", "cells-", "1", "-", "goal", "cellscells"):
            self.wrong(f"{word} 1\nrows 3\ncolumns 4", 0)
            self.wrong(f"cells 1\n{word} 1\nrows 3 3\ncolumns 4", 1)
        for word in ("", "row", "Rows", "rows3", "rowss", "columns", "-", "3"):
            self.wrong(f"cells 1\n{word} 3\ncolumns 4", 1)
        for word in ("", "column", "Columns", "columns4", "rows", "cells", "-", "4"):
            self.wrong(f"cells 1\nrows 3\n{word} 4", 2)

    def test_spaces(self):
        self.wrong("cells  1\nrows 3\ncolumns 4", 0)
        self.wrong("cells 1 \nrows 3\ncolumns 4", 0)
        self.wrong(" cells 1\nrows 3\ncolumns 4", 0)
        self.wrong("cells 1\nrows 3 \ncolumns 4", 1)
        self.wrong("cells 1\nrows  3\ncolumns 4", 1)
        self.wrong("cells 1\n rows 3\ncolumns 4", 1)
        self.wrong("cells 1\nrows 3\ncolumns 4 ", 2)
        self.wrong("cells 1\nrows 3\ncolumns 4  5", 2)
        self.wrong("cells 1\nrows 3\n columns 4", 2)
        self.wrong("cells \nrows 3\ncolumns 4", 0)
        self.wrong("cells 1\nrows \ncolumns 4", 1)
        self.wrong("cells 1\nrows 3\ncolumns ", 2)

    def test_missing_lines(self):
        self.wrong("cells 1", 1)
        self.wrong("cells 1\ncells 2", 2)
        self.wrong("cells 1\nrows 3", 2)
        self.wrong("rows 3", 1)
        self.wrong("rows", 1)
        self.wrong("cells", 1)
        self.wrong("cells 1\ncolumns 4", 1)
        self.wrong("columns 4", 0)

    def test_lines_behind_the_last(self):
        self.wrong(TEXT + "\n", 4)
        self.wrong(TEXT + "\n\n", 4)
        self.wrong(TEXT + "\ncolumns 1 1", 4)
        self.wrong(TEXT + "\ncells 1 1", 4)
        self.wrong(TEXT + "\n" + TEXT, 4)
        self.wrong("rows\ncolumns\n", 2)

    def test_order_of_lines(self):
        self.wrong("rows 3\ncells 1\ncolumns 4", 1)
        self.wrong("cells 1\ncolumns 4\nrows 3", 1)
        self.wrong("columns 4\nrows 3\ncells 1", 0)
        self.wrong("cells 1\nrows 3\nrows 3\ncolumns 4", 2)
        self.wrong("cells 1\nrows 3\ncells 2\ncolumns 4", 2)
        self.wrong("cells 1\n\nrows 3\ncolumns 4", 1)

    def test_first_wrong_line(self):
        self.wrong("cells 1\ncells x\nrows y\ncolumns z\n", 1)
        self.wrong("cells 1\nrows y\ncolumns z\n", 1)
        self.wrong("cells 01", 0)
        self.wrong("cells 1\nrows 03", 1)

    def test_grammar_before_the_table(self):
        self.wrong("cells 9999999\nrows 0\ncolumns 4 x", 2)
        self.wrong("rows\ncolumns\ncells", 2)
        self.wrong("cells 1\ncells\nrows 3", 3)

    def test_texts_that_tell_no_valid_table(self):
        self.check("rows 3\ncolumns 4", ("InvalidTable", 0, 0))
        self.check("rows\ncolumns", ("InvalidTable", 0, 0))
        self.check("cells\nrows\ncolumns", ("InvalidTable", 0, 0))
        self.check("cells\nrows 3\ncolumns", ("InvalidTable", 0, 0))
        self.check("cells 1\ncells\nrows 3 3\ncolumns 4", ("InvalidTable", 0, 1))
        self.check("cells 1\ncells 1 2\nrows 3 3\ncolumns 4", ("InvalidTable", 0, 1))
        self.check("cells 1\nrows\ncolumns 4", ("InvalidTable", 1, 0))
        self.check("cells 1\nrows 3 3\ncolumns 4", ("InvalidTable", 1, 1))
        self.check("cells 1\nrows 3\ncolumns", ("InvalidTable", 2, 0))
        self.check("cells 1 2\nrows 3\ncolumns 4", ("InvalidTable", 2, 1))
        self.check("cells 1 2\nrows 3\ncolumns 4 - -", ("InvalidTable", 2, 2))
        self.check("cells 1\n" * 8 + "rows" + " 1" * 8 + "\ncolumns 4", ("InvalidTable", 0, 7))
        self.check("cells 1\n" * 8 + "rows 1\ncolumns", ("InvalidTable", 0, 7))
        self.check("cells" + " 1" * 8 + "\nrows 3\ncolumns" + " 4" * 8, ("InvalidTable", 0, 0))
        self.check("cells 1000001\nrows 3\ncolumns 4", ("InvalidTable", 0, 0))
        self.check("cells -1000001\nrows 3\ncolumns 4", ("InvalidTable", 0, 0))
        self.check("cells 1\nrows 0\ncolumns 4", ("InvalidTable", 1, 0))
        self.check("cells 1\nrows -3\ncolumns 4", ("InvalidTable", 1, 0))
        self.check("cells 1\nrows 3\ncolumns 100", ("InvalidTable", 2, 0))

    def test_changed_texts(self):
        source = random.Random(42)
        kinds = {}
        for _ in range(4000):
            table = random_table(source, source.randint(1, 7), source.randint(1, 7), 0.3, 30)
            text = format_table(table)
            for _ in range(source.randint(1, 2)):
                text = source.choice((changed_character, changed_line, changed_word))(source, text)
            expected = read_outcome(text)
            kinds[expected[0]] = kinds.get(expected[0], 0) + 1
            self.check(text, expected)
        self.assertEqual(set(kinds), {"returned", "ParseError", "InvalidTable"})
        self.assertGreater(min(kinds.values()), 200)


def changed_character(source, text):
    at = source.randrange(len(text) + 1)
    letter = source.choice("0123456789--  \n\nx~")
    return text[:at] + source.choice(("", letter)) + text[at + source.randint(0, 1):]


def changed_line(source, text):
    lines = text.split("\n")
    at = source.randrange(len(lines))
    way = source.randrange(6)
    if way == 0:
        del lines[at]
    elif way == 1:
        lines.insert(at, source.choice(lines))
    elif way == 2:
        lines[at] = source.choice(lines)
    elif way == 3:
        lines[at] = lines[at].split(" ")[0]
    elif way == 4:
        lines.append(source.choice(("", *lines)))
    else:
        other = source.randrange(len(lines))
        lines[at], lines[other] = lines[other], lines[at]
    return "\n".join(lines)


def changed_word(source, text):
    lines = text.split("\n")
    at = source.randrange(len(lines))
    words = lines[at].split(" ")
    place = source.randrange(len(words) + 1)
    word = source.choice((*GOOD_WORDS, "-", "-", *source.choices(BAD_WORDS, k=5)))
    words[place:place + source.randint(0, 1)] = source.choice(([word], [word], []))
    lines[at] = " ".join(words)
    return "\n".join(lines)
