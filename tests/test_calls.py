"""The list of calls, and the calls that move the cursor."""

from keyblocks.desk import answers
from tests.helper import (
    APPEND, BEGIN, DONE, LAST_NUMBER, LIST, LOOK, MAP, NO, NONE, NOT_OF_THIS, PRINT, REMOVE, TELL_KEY, TELL_TEXT, TEXT,
    TOP, UP, YES, Checks, enter, fault, flat, item, looked, make, printed, put, read, set_text)


class Unchanged(list):
    """A list that can be read alone."""

    def refuse(self, *args, **kwargs):
        raise AssertionError("what is handed in was changed")

    append = clear = extend = insert = pop = remove = reverse = sort = refuse
    __setitem__ = __delitem__ = __iadd__ = __imul__ = refuse


MIXED = flat([
    read(b"a: 1\nb:\n  - x\n  - {}\n"), PRINT, enter(b"b"), item(0), LOOK, read(b"a\nb"), UP, TOP, LOOK, BEGIN, PRINT,
    put(b"k "), TELL_KEY, TELL_TEXT, make(LIST), make(3), APPEND, set_text(b"t\n"), TELL_KEY, TELL_TEXT, PRINT, UP,
    APPEND, put(b"x"), REMOVE, PRINT])
MIXED_ANSWER = flat([
    DONE, printed(b"a: 1\nb:\n  - x\n  - {}\n"), YES, YES, looked(TEXT, 1, NONE, 2), fault(5, 2, 1), YES, DONE,
    looked(MAP, 2, NONE, 0), DONE, printed(b"{}\n"),
    DONE, printed(b"k "), [1, 0], DONE, NOT_OF_THIS, DONE, DONE, NOT_OF_THIS, printed(b"t\n"),
    printed(b'"k ":\n  - "t\\n"\n'), YES, DONE, NOT_OF_THIS, DONE, printed(b'"k ":\n  - "t\\n"\n')])


class TestTheList(Checks):
    def test_no_calls(self):
        self.assertEqual(answers([]), [])

    def test_one_call(self):
        self.assertEqual(answers([1]), [2, 0, 0])
        self.assertEqual(answers([3]), [4, 0, 123, 125, 10])
        self.assertEqual(answers([8]), [5, 0, 1, 0, -1, 0])

    def test_written_out(self):
        self.assertEqual(
            answers([2, 4, 97, 58, 32, 98, 6, 1, 97, 8, 7, 0, 5, 7, 0, 4, 3, 2, 1, 58, 1]),
            [2, 0, 0, 2, 0, 1, 5, 0, 0, 1, 1, 1, 2, 0, 0, 2, 0, 1, 2, 0, 1, 2, 0, 0,
             6, 0, 97, 58, 32, 98, 10, 4, -100, 3, 1, 1, 2, 0, 0])

    def test_several_calls(self):
        self.assertEqual(answers(MIXED), MIXED_ANSWER)

    def test_the_argument_stays(self):
        calls = list(MIXED)
        answers(calls)
        self.assertEqual(calls, MIXED)

    def test_the_argument_stays_all_the_while(self):
        self.assertEqual(answers(Unchanged(MIXED)), MIXED_ANSWER)

    def test_the_same_twice(self):
        first = answers(MIXED)
        self.assertEqual(first, MIXED_ANSWER)
        answers(read(b"other: tree"))
        first.append(5)
        self.assertEqual(answers(MIXED), MIXED_ANSWER)

    def test_each_list_has_a_new_object(self):
        self.check([read(b"a: b"), enter(b"a")], [DONE, YES])
        self.check([PRINT, LOOK], [printed(b"{}\n"), looked(MAP, 0, NONE, 0)])
        self.check([put(b"a"), make(LIST), APPEND, set_text(b"b")], [DONE, DONE, DONE, DONE])
        self.check([PRINT, LOOK, enter(b"a")], [printed(b"{}\n"), looked(MAP, 0, NONE, 0), NO])

    def test_edits_change_nothing_for_later_lists(self):
        edits = [read(b"a: {}\nb: []\nc: d"), item(0), put(b"k"), TOP, item(1), APPEND, TOP, item(2), set_text(b"e"),
                 TOP, PRINT]
        told = [DONE, YES, DONE, DONE, YES, DONE, DONE, YES, DONE, DONE,
                printed(b'a:\n  k: ""\nb:\n  - ""\nc: e\n')]
        self.check(edits, told)
        self.check([read(b"a: {}\nb: []\nc: d"), PRINT], [DONE, printed(b"a: {}\nb: []\nc: d\n")])
        self.check(edits, told)

    def test_a_changed_answer_changes_no_later_one(self):
        empty = answers(PRINT)
        empty.clear()
        self.assertEqual(answers(PRINT), printed(b"{}\n"))

    def test_whole_numbers_and_lists(self):
        given = answers(MIXED)
        self.assertIs(type(given), list)
        self.assertEqual({type(number) for number in given}, {int})


class TestBegin(Checks):
    def test_new(self):
        self.check([BEGIN, PRINT, LOOK], [DONE, printed(b"{}\n"), looked(MAP, 0, NONE, 0)])

    def test_forgets_tree_and_cursor(self):
        self.check(
            [read(b"- a\n- b"), item(1), BEGIN, LOOK, UP, PRINT],
            [DONE, YES, DONE, looked(MAP, 0, NONE, 0), NO, printed(b"{}\n")])


class TestReadMovesTheCursor(Checks):
    def test_to_the_top(self):
        self.check(
            [read(b"a:\n  b: c"), enter(b"a"), enter(b"b"), read(b"a:\n  b: c"), LOOK, UP],
            [DONE, YES, YES, DONE, looked(MAP, 1, NONE, 0), NO])

    def test_not_after_a_fault(self):
        self.check(
            [read(b"a:\n  b: c"), enter(b"a"), enter(b"b"), read(b"x: y\nz"), LOOK, UP, LOOK, PRINT],
            [DONE, YES, YES, fault(5, 2, 1), looked(TEXT, 1, 1, 2), YES, looked(MAP, 1, 1, 1),
             printed(b"a:\n  b: c\n")])


class TestTopAndUp(Checks):
    TREE = read(b"a:\n  - b: c\n")
    DOWN = [enter(b"a"), item(0), enter(b"b")]

    def test_top(self):
        self.check([self.TREE, *self.DOWN, TOP, LOOK], [DONE, YES, YES, YES, DONE, looked(MAP, 1, NONE, 0)])

    def test_top_at_the_top(self):
        self.check([self.TREE, TOP, LOOK, TOP], [DONE, DONE, looked(MAP, 1, NONE, 0), DONE])

    def test_down_again_after_top(self):
        self.check(
            [self.TREE, *self.DOWN, TOP, *self.DOWN, LOOK],
            [DONE, YES, YES, YES, DONE, YES, YES, YES, looked(TEXT, 1, 1, 3)])

    def test_up_step_by_step(self):
        self.check(
            [self.TREE, *self.DOWN, LOOK, UP, LOOK, UP, LOOK, UP, LOOK, UP, LOOK],
            [DONE, YES, YES, YES, looked(TEXT, 1, 1, 3), YES, looked(MAP, 1, NONE, 2), YES, looked(LIST, 1, 1, 1),
             YES, looked(MAP, 1, NONE, 0), NO, looked(MAP, 1, NONE, 0)])

    def test_up_in_a_new_object(self):
        self.check([UP, UP, LOOK], [NO, NO, looked(MAP, 0, NONE, 0)])

    def test_moving_changes_no_tree(self):
        self.check(
            [self.TREE, *self.DOWN, UP, TOP, PRINT],
            [DONE, YES, YES, YES, YES, DONE, printed(b"a:\n  -\n    b: c\n")])


class TestEnter(Checks):
    def test_a_key_that_is_there(self):
        self.check([read(b"a: x\nbc: yy"), enter(b"bc"), LOOK], [DONE, YES, looked(TEXT, 2, 2, 1)])

    def test_a_key_that_is_not_there(self):
        self.check(
            [read(b"a: x\nbc: yy"), enter(b"b"), LOOK, enter(b""), enter(b"bcd"), enter(b"a "), LOOK],
            [DONE, NO, looked(MAP, 2, NONE, 0), NO, NO, NO, looked(MAP, 2, NONE, 0)])

    def test_the_empty_map(self):
        self.check([enter(b"a"), enter(b""), LOOK], [NO, NO, looked(MAP, 0, NONE, 0)])

    def test_the_empty_key(self):
        self.check([read(b'a: 1\n"": 22'), enter(b""), LOOK], [DONE, YES, looked(TEXT, 2, 0, 1)])

    def test_a_list(self):
        self.check([read(b"- a\n- b"), enter(b"a"), enter(b""), LOOK], [DONE, NO, NO, looked(LIST, 2, NONE, 0)])

    def test_a_text(self):
        self.check([read(b"a"), enter(b"a"), enter(b""), LOOK], [DONE, NO, NO, looked(TEXT, 1, NONE, 0)])

    def test_a_key_further_in_or_out(self):
        self.check(
            [read(b"a:\n  b: c"), enter(b"b"), enter(b"a"), enter(b"a"), enter(b"b"), LOOK],
            [DONE, NO, YES, NO, YES, looked(TEXT, 1, 1, 2)])

    def test_any_bytes(self):
        key = bytes(range(256))
        written = b'"' + b"".join(b"\\x%02x" % byte for byte in key) + b'": there'
        self.check(
            [read(written), enter(key), LOOK, UP, enter(key[:255])],
            [DONE, YES, looked(TEXT, 5, 256, 1), YES, NO])


class TestItem(Checks):
    def test_a_map(self):
        self.check(
            [read(b"a: 1\nbb: 22\nccc: 333"), item(0), LOOK, UP, item(2), LOOK, UP, item(1), LOOK],
            [DONE, YES, looked(TEXT, 1, 1, 1), YES, YES, looked(TEXT, 3, 3, 1), YES, YES, looked(TEXT, 2, 2, 1)])

    def test_a_list(self):
        self.check(
            [read(b"- 1\n- 22\n- 333"), item(0), LOOK, UP, item(2), LOOK, UP, item(1), LOOK],
            [DONE, YES, looked(TEXT, 1, NONE, 1), YES, YES, looked(TEXT, 3, NONE, 1), YES, YES,
             looked(TEXT, 2, NONE, 1)])

    def test_behind_the_last(self):
        for text, kind in ((b"a: 1\nb: 2", MAP), (b"- 1\n- 2", LIST)):
            self.check(
                [read(text), item(2), item(3), item(LAST_NUMBER), LOOK],
                [DONE, NO, NO, NO, looked(kind, 2, NONE, 0)])

    def test_empty_ones(self):
        for text, kind in ((b"{}", MAP), (b"[]", LIST)):
            self.check(
                [read(text), item(0), item(LAST_NUMBER), LOOK], [DONE, NO, NO, looked(kind, 0, NONE, 0)])

    def test_a_text(self):
        self.check(
            [read(b"abc"), item(0), item(1), item(LAST_NUMBER), LOOK],
            [DONE, NO, NO, NO, looked(TEXT, 3, NONE, 0)])

    def test_the_order_is_that_of_the_text(self):
        self.check(
            [read(b"zzz: 1\na: 22\nmm: 333"), item(0), LOOK, UP, item(1), LOOK, UP, item(2), LOOK],
            [DONE, YES, looked(TEXT, 1, 3, 1), YES, YES, looked(TEXT, 2, 1, 1), YES, YES, looked(TEXT, 3, 2, 1)])


class TestLook(Checks):
    def test_kinds_and_sizes_at_the_top(self):
        for text, kind, size in (
                (b'""', TEXT, 0), (b"abc", TEXT, 3), (b'"\\x00\\n\\""', TEXT, 3), (b"\xc3\xa4", TEXT, 2),
                (b"{}", MAP, 0), (b"a:", MAP, 1), (b"a: 1\nb: 2\nc:\n  d: 3", MAP, 3),
                (b"[]", LIST, 0), (b"-", LIST, 1), (b"- a\n- b\n- - c\n  - d", LIST, 3)):
            with self.subTest(text=text):
                self.check([read(text), LOOK], [DONE, looked(kind, size, NONE, 0)])

    def test_kinds_under_keys(self):
        text = b'"": t\na: {}\nbb: []\nccc:\n  x: 1\n  y: 2\ndddd:\n  - 1\n  - 2\n  - 3\neeeee:\n'
        calls = [read(text)]
        for index in range(6):
            calls += [item(index), LOOK, UP]
        expected = [DONE]
        for kind, size, key_length in (
                (TEXT, 1, 0), (MAP, 0, 1), (LIST, 0, 2), (MAP, 2, 3), (LIST, 3, 4), (TEXT, 0, 5)):
            expected += [YES, looked(kind, size, key_length, 1), YES]
        self.check(calls, expected)

    def test_the_key_is_none_in_a_list_within_a_map(self):
        self.check(
            [read(b"key:\n  - - t"), enter(b"key"), item(0), LOOK, item(0), LOOK],
            [DONE, YES, YES, looked(LIST, 1, NONE, 2), YES, looked(TEXT, 1, NONE, 3)])

    def test_the_greatest_depth(self):
        calls = [read(b"- " * 32 + b"{}")] + [item(0)] * 32 + [LOOK]
        self.check(calls, [DONE] + [YES] * 32 + [looked(MAP, 0, NONE, 32)])
