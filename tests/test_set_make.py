"""The edits set and make: a value becomes another one in the same place."""

from tests.helper import (
    DONE, LAST_NUMBER, LIST, LOOK, MAP, MOST_HANDED_OVER, MOST_PRINTED, MOST_TAKEN, NO, NONE, NOT_OF_THIS, PRINT,
    TELL_KEY, TELL_TEXT, TEXT, TOO_MUCH, UP, WRITTEN, YES,
    Checks, enter, form_of, item, kind_of, large, looked, make, printed, put, read, read_tree, set_text, word)

# Values of each kind, with nothing in them and with something.
VALUES = (
    b"", b"abc", {}, {b"k": b"v"}, {b"k": [b"v", {b"w": {}}], b"l": b"m"}, [], [b"v"], [[b"v"], {b"w": [b"x"]}, []])


class TestSet(Checks):
    def test_written_out(self):
        self.check([[11, 2, 97, 98], [10], [3]], [[2, 0, 0], [3, 0, 97, 98], [4, 0, 97, 98, 10]])

    def test_at_the_top(self):
        for value in VALUES:
            self.check(
                [read_tree(value), set_text(b"new"), LOOK, TELL_TEXT, TELL_KEY, item(0), enter(b"k"), UP, PRINT],
                [DONE, DONE, looked(TEXT, 3, NONE, 0), printed(b"new"), NOT_OF_THIS, NO, NO, NO, printed(b"new\n")])

    def test_in_a_map(self):
        for value in VALUES:
            self.check(
                [read_tree({b"a": [b"x"], b"key": value, b"z": {}}), enter(b"key"), set_text(b"new"), LOOK, TELL_KEY,
                 TELL_TEXT, item(0), enter(b"k"), UP, LOOK, PRINT, item(1), TELL_TEXT],
                [DONE, YES, DONE, looked(TEXT, 3, 3, 1), printed(b"key"),
                 printed(b"new"), NO, NO, YES, looked(MAP, 3, NONE, 0), printed(b"a:\n  - x\nkey: new\nz: {}\n"), YES,
                 printed(b"new")])

    def test_in_a_list(self):
        for value in VALUES:
            self.check(
                [read_tree([{b"x": b"y"}, value, []]), item(1), set_text(b"new"), LOOK, TELL_KEY, TELL_TEXT, item(0),
                 UP, LOOK, PRINT],
                [DONE, YES, DONE, looked(TEXT, 3, NONE, 1), NOT_OF_THIS, printed(b"new"), NO,
                 YES, looked(LIST, 3, NONE, 0), printed(b"-\n  x: y\n- new\n- []\n")])

    def test_further_in(self):
        self.check(
            [read(b"a:\n  b:\n    - c\n    - d:\n        e: f\n      g: h\n  i: j"), enter(b"a"), enter(b"b"), item(1),
             enter(b"d"), set_text(b""), LOOK, PRINT, UP, UP, set_text(b"t"), LOOK, PRINT],
            [DONE, YES, YES, YES, YES, DONE, looked(TEXT, 0, 1, 4),
             printed(b'a:\n  b:\n    - c\n    -\n      d: ""\n      g: h\n  i: j\n'), YES, YES, DONE,
             looked(TEXT, 1, 1, 2), printed(b"a:\n  b: t\n  i: j\n")])

    def test_the_empty_text(self):
        self.check([set_text(b""), LOOK, TELL_TEXT, PRINT], [DONE, looked(TEXT, 0, NONE, 0), [1, 0], printed(b'""\n')])

    def test_plain_and_quoted(self):
        for content, form in WRITTEN:
            with self.subTest(content=content):
                self.check([set_text(content), TELL_TEXT, PRINT, read(form), TELL_TEXT],
                           [DONE, printed(content), printed(form + b"\n"), DONE, printed(content)])
                self.check([read(b"k: v"), item(0), set_text(content), TELL_TEXT, PRINT],
                           [DONE, YES, DONE, printed(content), printed(b"k: " + form + b"\n")])
                self.check([read(b"- v"), item(0), set_text(content), TELL_TEXT, PRINT],
                           [DONE, YES, DONE, printed(content), printed(b"- " + form + b"\n")])

    def test_each_byte(self):
        for byte in range(256):
            for content in (bytes([byte]), b"a" + bytes([byte]), bytes([byte]) + b" b"):
                self.check([set_text(content), TELL_TEXT, LOOK, PRINT],
                           [DONE, printed(content), looked(TEXT, len(content), NONE, 0),
                            printed(word(content) + b"\n")])

    def test_again_and_again(self):
        self.check([put(b"k"), set_text(b"a"), set_text(b"bb"), set_text(b"bb"), set_text(b""), PRINT, TELL_TEXT],
                   [DONE, DONE, DONE, DONE, DONE, printed(b'k: ""\n'), [1, 0]])

    def test_long_ones(self):
        for content in (b"x" * MOST_HANDED_OVER, b"\0" * MOST_HANDED_OVER, b'"' * MOST_HANDED_OVER):
            self.check([set_text(content), LOOK, PRINT],
                       [DONE, looked(TEXT, MOST_HANDED_OVER, NONE, 0), printed(word(content) + b"\n")])

    def test_more_than_may_be_handed_over(self):
        # No list of calls is so long; the limit is one of the object's own.
        self.check([set_text(b"x" * MOST_TAKEN), LOOK], [DONE, looked(TEXT, MOST_TAKEN, NONE, 0)])
        self.check([read(b"a: b"), item(0), set_text(b"x" * (MOST_TAKEN + 1)), LOOK, PRINT],
                   [DONE, YES, TOO_MUCH, looked(TEXT, 1, 1, 1), printed(b"a: b\n")])


class TestMake(Checks):
    KINDS = ((MAP, b"{}"), (LIST, b"[]"))

    def test_written_out(self):
        self.check([[12, 2], [8], [3], [12, 0]], [[2, 0, 0], [5, 0, 2, 0, -1, 0], [4, 0, 91, 93, 10], [1, -1]])

    def test_at_the_top(self):
        for kind, signs in self.KINDS:
            for value in VALUES:
                self.check(
                    [read_tree(value), make(kind), LOOK, TELL_TEXT, TELL_KEY, item(0), enter(b"k"), UP, PRINT],
                    [DONE, DONE, looked(kind, 0, NONE, 0), NOT_OF_THIS, NOT_OF_THIS, NO, NO, NO,
                     printed(signs + b"\n")])

    def test_in_a_map(self):
        for kind, signs in self.KINDS:
            for value in VALUES:
                self.check(
                    [read_tree({b"a": [b"x"], b"key": value, b"z": b"y"}), enter(b"key"), make(kind), LOOK, TELL_KEY,
                     item(0), enter(b"k"), PRINT, UP, LOOK],
                    [DONE, YES, DONE, looked(kind, 0, 3, 1), printed(b"key"), NO, NO,
                     printed(b"a:\n  - x\nkey: " + signs + b"\nz: y\n"), YES, looked(MAP, 3, NONE, 0)])

    def test_in_a_list(self):
        for kind, signs in self.KINDS:
            for value in VALUES:
                self.check(
                    [read_tree([b"x", value, b"y"]), item(1), make(kind), LOOK, TELL_KEY, item(0), PRINT, UP],
                    [DONE, YES, DONE, looked(kind, 0, NONE, 1), NOT_OF_THIS, NO,
                     printed(b"- x\n- " + signs + b"\n- y\n"), YES])

    def test_other_kinds(self):
        for other in (0, 3, 4, 255, LAST_NUMBER):
            for value in VALUES:
                self.check([read_tree(value), make(other), LOOK, PRINT],
                           [DONE, NOT_OF_THIS, looked(kind_of(value), len(value), NONE, 0), printed(form_of(value))])
                around = {b"k": value}
                self.check([read_tree(around), item(0), make(other), LOOK, PRINT],
                           [DONE, YES, NOT_OF_THIS, looked(kind_of(value), len(value), 1, 1), printed(form_of(around))])

    def test_another_kind_goes_before_too_much(self):
        text, form = large(MOST_PRINTED, b"- x\n")
        self.check(
            [read(text), item(248), make(0), make(3), make(LAST_NUMBER), make(MAP), make(LIST), LOOK, PRINT],
            [DONE, YES, NOT_OF_THIS, NOT_OF_THIS, NOT_OF_THIS, TOO_MUCH, TOO_MUCH, looked(TEXT, 1, NONE, 1),
             printed(form)])

    def test_from_one_to_the_other(self):
        self.check(
            [make(LIST), make(MAP), put(b"a"), make(MAP), make(LIST), set_text(b"t"), make(MAP), PRINT, UP, PRINT],
            [DONE, DONE, DONE, DONE, DONE, DONE, DONE, printed(b"a: {}\n"), YES, printed(b"a: {}\n")])

    def test_nothing_of_before_is_left(self):
        self.check(
            [read(b"a: 1\nb: 2"), make(MAP), enter(b"a"), put(b"b"), TELL_TEXT, UP, LOOK, PRINT],
            [DONE, DONE, NO, DONE, [1, 0], YES, looked(MAP, 1, NONE, 0), printed(b'b: ""\n')])
