"""The calls key and text: what a value stands under, and what a text is."""

from tests.helper import (
    DONE, LIST, LOOK, MAP, MOST_HANDED_OVER, NONE, NOT_OF_THIS, PRINT, TELL_KEY, TELL_TEXT, TEXT, UP, YES,
    Checks, enter, item, looked, printed, put, read, set_text)


class TestKey(Checks):
    def test_written_out(self):
        self.check([[2, 5, 97, 98, 58, 32, 99], [7, 0], [9], [10], [5], [9], [10]],
                   [[2, 0, 0], [2, 0, 1], [3, 0, 97, 98], [2, 0, 99], [2, 0, 1], [1, -1], [1, -1]])

    def test_none_at_the_top(self):
        for text in (b"", b"a: b", b"[]", b"- a", b"a", b'""'):
            self.check([read(text), TELL_KEY], [DONE, NOT_OF_THIS])

    def test_none_in_a_new_object(self):
        self.check([TELL_KEY, LOOK], [NOT_OF_THIS, looked(MAP, 0, NONE, 0)])

    def test_none_in_a_list(self):
        for text in (b"- a", b"- {}", b"- []", b"- a: b", b"- - a"):
            self.check([read(text), item(0), TELL_KEY], [DONE, YES, NOT_OF_THIS])
        self.check(
            [read(b"k:\n  - a"), item(0), TELL_KEY, item(0), TELL_KEY, LOOK],
            [DONE, YES, printed(b"k"), YES, NOT_OF_THIS, looked(TEXT, 1, NONE, 2)])

    def test_in_a_map(self):
        self.check(
            [read(b"a: x\nbb: {}\nccc: []\ndd dd:\n  e: f"), item(0), TELL_KEY, UP, item(1), TELL_KEY, UP,
             item(2), TELL_KEY, UP, item(3), TELL_KEY, item(0), TELL_KEY],
            [DONE, YES, printed(b"a"), YES, YES, printed(b"bb"), YES,
             YES, printed(b"ccc"), YES, YES, printed(b"dd dd"), YES, printed(b"e")])

    def test_the_empty_key(self):
        self.check([read(b'"": a'), item(0), TELL_KEY], [DONE, YES, [1, 0]])
        self.check([put(b""), TELL_KEY, LOOK], [DONE, [1, 0], looked(TEXT, 0, 0, 1)])

    def test_each_byte(self):
        for byte in range(256):
            key = bytes([byte])
            self.check([read(b'"\\x%02x": a' % byte), item(0), TELL_KEY], [DONE, YES, printed(key)])
            self.check([put(key), TELL_KEY, LOOK], [DONE, printed(key), looked(TEXT, 0, 1, 1)])

    def test_all_bytes_in_one(self):
        key = bytes(range(256))
        self.check([put(key), TELL_KEY, UP, enter(key), TELL_KEY], [DONE, printed(key), YES, YES, printed(key)])

    def test_a_long_one(self):
        key = b"\xff k\n" * (MOST_HANDED_OVER // 4)
        self.check([put(key), TELL_KEY, LOOK], [DONE, printed(key), looked(TEXT, 0, len(key), 1)])


class TestText(Checks):
    def test_of_texts(self):
        for text, content in (
                (b'""', b""), (b"a", b"a"), (b"a b  # c", b"a b"), (b'"{}"', b"{}"),
                (b'"\\x00\\n\\"\\\\\\t"', b'\0\n"\\\t'), (b"\xc3\xa4", b"\xc3\xa4")):
            self.check([read(text), TELL_TEXT], [DONE, printed(content)])
            self.check([read(b"- " + text), item(0), TELL_TEXT], [DONE, YES, printed(content)])
            self.check([read(b"k: " + text), item(0), TELL_TEXT], [DONE, YES, printed(content)])

    def test_the_empty_one(self):
        self.check([read(b"-"), item(0), TELL_TEXT, UP, read(b"a:"), item(0), TELL_TEXT],
                   [DONE, YES, [1, 0], YES, DONE, YES, [1, 0]])

    def test_each_byte(self):
        for byte in range(256):
            self.check([read(b'"\\x%02x"' % byte), TELL_TEXT], [DONE, printed(bytes([byte]))])

    def test_a_long_one(self):
        content = bytes(range(256)) * (MOST_HANDED_OVER // 256)
        self.check([set_text(content), TELL_TEXT, LOOK], [DONE, printed(content), looked(TEXT, len(content), NONE, 0)])
        self.check([read(b"x" * MOST_HANDED_OVER), TELL_TEXT], [DONE, printed(b"x" * MOST_HANDED_OVER)])

    def test_of_maps_and_lists(self):
        for text, kind, size in ((b"{}", MAP, 0), (b"a: b", MAP, 1), (b"[]", LIST, 0), (b"- a\n- b", LIST, 2)):
            self.check([read(text), TELL_TEXT, LOOK], [DONE, NOT_OF_THIS, looked(kind, size, NONE, 0)])
            below = b"k:\n" + b"".join(b"  " + line + b"\n" for line in text.split(b"\n"))
            self.check([read(below), enter(b"k"), TELL_TEXT, LOOK],
                       [DONE, YES, NOT_OF_THIS, looked(kind, size, 1, 1)])

    def test_telling_changes_nothing(self):
        self.check([read(b"a: b"), TELL_KEY, TELL_TEXT, item(0), TELL_KEY, TELL_TEXT, LOOK, PRINT],
                   [DONE, NOT_OF_THIS, NOT_OF_THIS, YES, printed(b"a"), printed(b"b"), looked(TEXT, 1, 1, 1),
                    printed(b"a: b\n")])
