"""Calls and answers as the interface writes them, trees to test with, and checks on whole answers."""

import re
import unittest

from keyblocks.desk import answers

BEGIN = [1]
PRINT = [3]
TOP = [4]
UP = [5]
LOOK = [8]
TELL_KEY = [9]
TELL_TEXT = [10]
APPEND = [14]
REMOVE = [15]

DONE = [2, 0, 0]
YES = [2, 0, 1]
NO = [2, 0, 0]
NOT_OF_THIS = [1, -1]
TOO_DEEP = [1, -2]
TOO_MUCH = [1, -3]
TOO_LARGE = [1, -7]

TEXT, MAP, LIST = 0, 1, 2
NONE = -1
LAST_NUMBER = 4294967295

MOST_PRINTED = 262144
MOST_TAKEN = 65536
MOST_HANDED_OVER = 29000
MOST_NUMBERS = 30000
MOST_CALLS = 10000


def read(text):
    return [2, len(text), *text]


def enter(key):
    return [6, len(key), *key]


def item(index):
    return [7, index]


def set_text(text):
    return [11, len(text), *text]


def make(kind):
    return [12, kind]


def put(key):
    return [13, len(key), *key]


def printed(text):
    """The answer of print, and of key and text."""
    return [1 + len(text), 0, *text]


def looked(kind, size, key_length, depth):
    """The answer of look."""
    return [5, 0, kind, size, key_length, depth]


def fault(kind, line, column):
    """The answer of a read with that fault."""
    return [4, -100, kind, line, column]


def flat(parts):
    return [number for part in parts for number in part]


# Bytes as they are, and as they're written.
WRITTEN = (
    (b"", b'""'), (b" ", b'" "'), (b" a", b'" a"'), (b"a ", b'"a "'), (b"a b", b"a b"), (b"- a", b'"- a"'),
    (b"-", b'"-"'), (b"- ", b'"- "'), (b"-a", b"-a"), (b"--", b"--"), (b"a -", b"a -"), (b"a: b", b'"a: b"'),
    (b"a:b", b"a:b"), (b"a:", b'"a:"'), (b":", b'":"'), (b": a", b'": a"'), (b":a", b":a"), (b"::", b'"::"'),
    (b"a :", b'"a :"'), (b"a #b", b'"a #b"'), (b"a #", b'"a #"'), (b"a#b", b"a#b"), (b"a# b", b"a# b"),
    (b"#", b'"#"'), (b"#a", b'"#a"'), (b"a:#", b"a:#"), (b"a #: b", b'"a #: b"'), (b"{}", b'"{}"'),
    (b"[]", b'"[]"'), (b"{}a", b"{}a"), (b"{", b"{"), (b"]", b"]"), (b"{} ", b'"{} "'), (b'"', b'"\\""'),
    (b'""', b'"\\"\\""'), (b'"a"', b'"\\"a\\""'), (b'a"b', b'a"b'), (b"a\\b", b"a\\b"), (b"\\", b"\\"),
    (b" \\", b'" \\\\"'), (b"a\\n", b"a\\n"), (b"a\nb", b'"a\\nb"'), (b"\n", b'"\\n"'), (b"a\n", b'"a\\n"'),
    (b"a\tb", b'"a\\tb"'), (b"\r\n", b'"\\x0d\\n"'), (b"\x7f", b'"\\x7f"'), (b"\x1f\x1b", b'"\\x1f\\x1b"'),
    (b"\0", b'"\\x00"'), (b"\x80\xff", b"\x80\xff"), (b"\xff\n", b'"\xff\\n"'), (b"'", b"'"),
    (b"\xc3\xa4 #", b'"\xc3\xa4 #"'),
    (b'"\\\n\t\x0b', b'"\\"\\\\\\n\\t\\x0b"'), (b"a:\nb", b'"a:\\nb"'))

NOT_PLAIN = re.compile(rb"[\0-\x1f\x7f]|\A[ \"#]| \Z|\A-( |\Z)| #|:( |\Z)|\A({}|\[]|)\Z")


def written_byte(byte):
    """A byte as it stands within quotes."""
    short = {34: b'\\"', 92: b"\\\\", 10: b"\\n", 9: b"\\t"}
    if byte in short:
        return short[byte]
    if byte < 32 or byte == 127:
        return b"\\x%02x" % byte
    return bytes([byte])


def word(content):
    """A key or text as it's printed."""
    if NOT_PLAIN.search(content):
        return b'"' + b"".join(written_byte(byte) for byte in content) + b'"'
    return content


def kind_of(tree):
    """The kind of a tree of bytes, dicts and lists."""
    return TEXT if isinstance(tree, bytes) else MAP if isinstance(tree, dict) else LIST


def form_lines(tree, depth, written):
    """The lines of a tree of bytes, dicts and lists at that depth, keys and texts as written tells."""
    if isinstance(tree, bytes):
        return [written(tree) + b"\n"]
    if not tree:
        return [b"{}\n" if isinstance(tree, dict) else b"[]\n"]
    lines = []
    heads = [written(key) + b":" for key in tree] if isinstance(tree, dict) else [b"-"] * len(tree)
    for head, value in zip(heads, tree.values() if isinstance(tree, dict) else tree):
        below = form_lines(value, depth + 1, written)
        if value and not isinstance(value, bytes):
            lines.append(b"  " * depth + head + b"\n")
            lines.extend(below)
        else:
            lines.append(b"  " * depth + head + b" " + below[0])
    return lines


def form_of(tree):
    """The printed form of a tree of bytes, dicts and lists."""
    return b"".join(form_lines(tree, 0, word))


def read_tree(tree):
    """A read of that tree."""
    return read(form_of(tree))


def changed_at(tree, path, value):
    """A copy of the tree with another value at the path of keys and indexes."""
    if not path:
        return value
    copied = tree.copy()
    copied[path[0]] = changed_at(tree[path[0]], path[1:], value)
    return copied


def nested(count, value):
    """The value within so many lists."""
    for step in range(count):
        value = [value]
    return value


def some_bytes(source):
    if source.random() < 0.3:
        return source.choice(WRITTEN)[0]
    return bytes(source.choice(b' ab:-#"\\{}[]x41\n\t\0\x7f\x80\xff') for place in range(source.randrange(6)))


def some_tree(source, depth):
    kind = source.randrange(4) if depth < 6 else 0
    if kind == 0:
        return some_bytes(source)
    count = source.randrange(5)
    if kind == 1:
        return [some_tree(source, depth + 1) for place in range(count)]
    return {some_bytes(source): some_tree(source, depth + 1) for place in range(count)}


def walk(tree, key, depth):
    """Calls that go through the whole tree below the cursor and tell of every value, and their answers."""
    kind = kind_of(tree)
    calls = [LOOK, TELL_KEY, TELL_TEXT]
    told = [looked(kind, len(tree), NONE if key is None else len(key), depth),
            NOT_OF_THIS if key is None else printed(key), printed(tree) if kind == TEXT else NOT_OF_THIS]
    if kind == TEXT:
        return calls, told
    steps = [(enter(key), key, value) for key, value in tree.items()] if kind == MAP else [
        (item(index), None, value) for index, value in enumerate(tree)]
    for index, (step, below_key, value) in enumerate(steps):
        below = walk(value, below_key, depth + 1)
        calls += [item(index), UP, step, *below[0], UP]
        told += [YES, YES, YES, *below[1], YES]
    return calls + [item(len(tree))], told + [NO]


# Thirty-two lists within one another, and their printed form.
DEEP = b"- " * 31 + b"-\n"
DEEP_FORM = b"".join(b"  " * depth + b"-\n" for depth in range(31)) + b"  " * 31 + b'- ""\n'


def large(size, last=b""):
    """A text, and its printed form of that size. It is a list that ends with a text of x, and then the last lines."""
    count = (size - 3 - len(last)) // len(DEEP_FORM)
    end = b"- " + b"x" * (size - 3 - len(last) - count * len(DEEP_FORM)) + b"\n" + last
    return DEEP * count + end, DEEP_FORM * count + end


class Checks(unittest.TestCase):
    maxDiff = 2000

    def check(self, calls, expected):
        """The calls, one behind another, have just these answers."""
        given = answers(flat(calls))
        wanted = flat(expected)
        if given != wanted and len(wanted) > 3000:
            self.fail(f"{len(given)} numbers, wanted {len(wanted)}")
        self.assertEqual(given, wanted)

    def check_steps(self, *steps):
        """Calls and what each answers, in pairs, on one object."""
        self.check([call for call, answer in steps], [answer for call, answer in steps])

    def check_reads(self, text, form):
        """The text is read, and form is what is printed of it; that is read back and printed the same."""
        with self.subTest(text=text[:80]):
            self.check([read(text), PRINT], [DONE, printed(form)])
            self.check([read(form), PRINT], [DONE, printed(form)])

    def check_fault(self, text, kind, line, column):
        """The text has that first fault, and what was there before stays, the cursor too."""
        with self.subTest(text=text[:80]):
            self.check_keeps(text, fault(kind, line, column))

    def check_keeps(self, text, answer):
        """Reading the text gives the answer, and tree and cursor stay."""
        self.check(
            [read(b"kept:\n  - a\n  - bcd\n"), enter(b"kept"), item(1), read(text), LOOK, PRINT, UP, LOOK],
            [DONE, YES, YES, answer, looked(TEXT, 3, NONE, 2), printed(b"kept:\n  - a\n  - bcd\n"),
             YES, looked(LIST, 2, 4, 1)])
