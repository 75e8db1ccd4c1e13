"""Calls and answers as the interface writes them, and checks on whole answers."""

import unittest

from keyblocks.desk import answers

BEGIN = [1]
PRINT = [3]
TOP = [4]
UP = [5]
LOOK = [8]

DONE = [2, 0, 0]
YES = [2, 0, 1]
NO = [2, 0, 0]
TOO_LARGE = [1, -7]

TEXT, MAP, LIST = 0, 1, 2
NONE = -1


def read(text):
    return [2, len(text), *text]


def enter(key):
    return [6, len(key), *key]


def item(index):
    return [7, index]


def printed(text):
    """The answer of print."""
    return [1 + len(text), 0, *text]


def looked(kind, size, key_length, depth):
    """The answer of look."""
    return [5, 0, kind, size, key_length, depth]


def fault(kind, line, column):
    """The answer of a read with that fault."""
    return [4, -100, kind, line, column]


def flat(parts):
    return [number for part in parts for number in part]


class Checks(unittest.TestCase):
    maxDiff = 2000

    def check(self, calls, expected):
        """The calls, one behind another, have just these answers."""
        given = answers(flat(calls))
        wanted = flat(expected)
        if given != wanted and len(wanted) > 3000:
            self.fail(f"{len(given)} numbers, wanted {len(wanted)}")
        self.assertEqual(given, wanted)

    def check_reads(self, text, form):
        """The text is read, and form is what is printed of it; that is read back and printed the same."""
        with self.subTest(text=text[:80]):
            self.check([read(text), PRINT], [DONE, printed(form)])
            self.check([read(form), PRINT], [DONE, printed(form)])

    def check_fault(self, text, kind, line, column):
        """The text has that first fault, and what was there before stays, the cursor too."""
        with self.subTest(text=text[:80]):
            self.check_keeps(text, fault(kind, line, column))

    def check_keeps(self, text, answer):
        """Reading the text gives the answer, and tree and cursor stay."""
        self.check(
            [read(b"kept:\n  - a\n  - bcd\n"), enter(b"kept"), item(1), read(text), LOOK, PRINT, UP, LOOK],
            [DONE, YES, YES, answer, looked(TEXT, 3, NONE, 2), printed(b"kept:\n  - a\n  - bcd\n"),
             YES, looked(LIST, 2, 4, 1)])
