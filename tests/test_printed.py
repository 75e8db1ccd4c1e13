"""The printed form, and that it is read back as the same tree."""

import random

from tests.helper import (
    DONE, LOOK, NONE, PRINT, TEXT, WRITTEN, YES,
    Checks, enter, fault, form_lines, form_of, looked, printed, read, some_tree, walk, written_byte)


def escaped(content):
    """The bytes in quotes, each by its two hexadecimal digits: one way of writing that fits all."""
    return b'"' + b"".join(b"\\x%02x" % byte for byte in content) + b'"'


class TestKinds(Checks):
    def test_at_the_top(self):
        for text, form in (
                (b"{}", b"{}\n"), (b"[]", b"[]\n"), (b"a", b"a\n"), (b'""', b'""\n'), (b"a:", b'a: ""\n'),
                (b"a: b", b"a: b\n"), (b"-", b'- ""\n'), (b"- b", b"- b\n"), (b"a: {}", b"a: {}\n"),
                (b"a: []", b"a: []\n"), (b"- {}", b"- {}\n"), (b"- []", b"- []\n")):
            self.check_reads(text, form)

    def test_nested(self):
        self.check_reads(b"a:\n b:\n  c: d", b"a:\n  b:\n    c: d\n")
        self.check_reads(b"- - - a", b"-\n  -\n    - a\n")
        self.check_reads(b"a:\n - b\n - c:\n    - d", b"a:\n  - b\n  -\n    c:\n      - d\n")
        self.check_reads(
            b"name: one\nparts:\n - x\n - size: 3\n   kinds:\n    - {}\n    - []\nend:",
            b'name: one\nparts:\n  - x\n  -\n    size: 3\n    kinds:\n      - {}\n      - []\nend: ""\n')

    def test_order(self):
        self.check_reads(b"b: 1\na: 2\nc: 3\nB: 4", b"b: 1\na: 2\nc: 3\nB: 4\n")


class TestWords(Checks):
    def check_written(self, content, form):
        """Wherever a text or key with these bytes stands, it is written as form."""
        word = escaped(content)
        self.check_reads(word, form + b"\n")
        self.check_reads(b"- " + word, b"- " + form + b"\n")
        self.check_reads(b"k: " + word, b"k: " + form + b"\n")
        self.check_reads(word + b": v", form + b": v\n")
        self.check_reads(word + b":", form + b': ""\n')
        self.check_reads(word + b":\n  - x", form + b":\n  - x\n")
        self.check_reads(b"- " + word + b": {}", b"-\n  " + form + b": {}\n")

    def test_listed(self):
        for content, form in WRITTEN:
            self.check_written(content, form)

    def test_each_byte_alone(self):
        for byte in range(256):
            quoted = byte < 32 or byte == 127 or byte in b' "#-:'
            form = b'"' + written_byte(byte) + b'"' if quoted else bytes([byte])
            self.check_written(bytes([byte]), form)

    def test_each_byte_within_a_text(self):
        for byte in range(256):
            content = b"a" + bytes([byte]) + b"b"
            quoted = byte < 32 or byte == 127
            self.check_written(content, b'"a' + written_byte(byte) + b'b"' if quoted else content)

    def test_each_byte_within_quotes(self):
        for byte in range(256):
            self.check_written(b" " + bytes([byte]) + b"b", b'" ' + written_byte(byte) + b'b"')

    def test_all_bytes_in_one(self):
        everything = bytes(range(256))
        self.check_written(everything, b'"' + b"".join(written_byte(byte) for byte in everything) + b'"')

    def test_the_same_tree_has_one_form(self):
        for text in (
                b"a b:\n  - c\n  - {}", b'"a b" :\n          - "c"\n          - {} # d',
                b"# x\n\na b  :  #\n - c\n -  {}\n", b'"\\x61\\x20b":\n\n -\n   "\\x63"\n -\n  {}'):
            self.check_reads(text, b"a b:\n  - c\n  - {}\n")


def shown(tree):
    """The printed form of a tree of bytes, dicts and lists, but every word escaped byte by byte."""
    return b"".join(form_lines(tree, 0, escaped))


class TestReadBack(Checks):
    def test_listed_at_several_depths(self):
        tree = b"top"
        for depth in range(8):
            tree = {content: tree if content == b"" else content for content, form in WRITTEN}
            if depth % 2:
                tree = [tree, b"x", {}, []]
            self.check_same_again(tree)

    def test_made_up_trees(self):
        source = random.Random(20)
        for count in range(400):
            self.check_same_again(some_tree(source, 0))

    def check_same_again(self, tree):
        """The tree is read as it is, and what is printed of it is read as the same tree and printed the same."""
        form = form_of(tree)
        calls, told = walk(tree, None, 0)
        self.check([read(shown(tree)), *calls, PRINT], [DONE, *told, printed(form)])
        self.check([read(form), *calls, PRINT], [DONE, *told, printed(form)])

    def test_texts_are_the_same_bytes(self):
        # A key shows its bytes: the printed form has it, and has it once.
        for content, form in WRITTEN:
            self.check(
                [read(form + b": x"), enter(content), LOOK, read(form + b": x\n" + escaped(content) + b": y")],
                [DONE, YES, looked(TEXT, 1, len(content), 1), fault(4, 2, 1)])
            self.check([read(form), LOOK], [DONE, looked(TEXT, len(content), NONE, 0)])
