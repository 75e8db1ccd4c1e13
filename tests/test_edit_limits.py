"""How deep edits may go, and how much they may make of a tree."""

from keyblocks.desk import answers
from tests.helper import (
    APPEND, BEGIN, DEEP, DONE, LIST, LOOK, MAP, MOST_NUMBERS, MOST_PRINTED, MOST_TAKEN, NONE, NOT_OF_THIS, PRINT,
    REMOVE, TELL_TEXT, TEXT, TOO_DEEP, TOO_LARGE, TOO_MUCH, TOP, UP, YES,
    Checks, enter, fault, flat, form_of, item, large, looked, make, nested, printed, put, read, set_text,
    word)


class TestDepth(Checks):
    def down(self, count):
        """Read as many lists within one another, and go to the text in the innermost."""
        return [(read(b"- " * count), DONE)] + [(item(0), YES)] * count

    def test_depth_31_takes_more(self):
        self.check_steps(
            *self.down(31), (LOOK, looked(TEXT, 0, NONE, 31)), (make(LIST), DONE), (APPEND, DONE),
            (LOOK, looked(TEXT, 0, NONE, 32)), (UP, YES), (APPEND, DONE), (UP, YES), (LOOK, looked(LIST, 2, NONE, 31)),
            (PRINT, printed(form_of(nested(31, [b"", b""])))))
        self.check_steps(
            *self.down(31), (make(MAP), DONE), (put(b"a"), DONE), (LOOK, looked(TEXT, 0, 1, 32)), (UP, YES),
            (put(b"b"), DONE), (UP, YES), (put(b"a"), DONE),
            (PRINT, printed(form_of(nested(31, {b"a": b"", b"b": b""})))))

    def test_depth_32_takes_nothing(self):
        for kind, call, empty in ((LIST, APPEND, []), (MAP, put(b"a"), {}), (MAP, put(b""), {})):
            self.check_steps(
                *self.down(32), (make(kind), DONE), (call, TOO_DEEP), (LOOK, looked(kind, 0, NONE, 32)),
                (PRINT, printed(form_of(nested(32, empty)))), (call, TOO_DEEP), (set_text(b"x"), DONE), (UP, YES),
                (LOOK, looked(LIST, 1, NONE, 31)), (PRINT, printed(form_of(nested(32, b"x")))))

    def test_an_empty_one_read_at_depth_32(self):
        for signs, call, kind in ((b"{}", put(b"a"), MAP), (b"[]", APPEND, LIST)):
            self.check_steps(
                (read(b"- " * 32 + signs), DONE), *[(item(0), YES)] * 32, (call, TOO_DEEP),
                (LOOK, looked(kind, 0, NONE, 32)), (PRINT, printed(form_of(nested(32, {} if kind == MAP else [])))))

    def test_not_of_this_value_goes_before_it(self):
        self.check_steps(
            *self.down(32), (put(b"a"), NOT_OF_THIS), (APPEND, NOT_OF_THIS), (make(MAP), DONE), (APPEND, NOT_OF_THIS),
            (put(b"a"), TOO_DEEP), (make(LIST), DONE), (put(b"a"), NOT_OF_THIS), (APPEND, TOO_DEEP))

    def test_too_long_a_key_goes_before_it(self):
        self.check_steps(*self.down(32), (make(MAP), DONE), (put(b"k" * (MOST_TAKEN + 1)), TOO_MUCH),
                         (put(b"k" * MOST_TAKEN), TOO_DEEP))

    def test_it_goes_before_too_much(self):
        for kind, call in ((LIST, APPEND), (MAP, put(b"a"))):
            text, form = large(MOST_PRINTED)
            signs = b"{}" if kind == MAP else b"[]"
            self.check_steps(
                (read(text), DONE), *[(item(0), YES)] * 32, (make(kind), DONE), (call, TOO_DEEP),
                (LOOK, looked(kind, 0, NONE, 32)), (UP, YES), (APPEND, TOO_MUCH),
                (PRINT, printed(form.replace(b'""', signs, 1))))

    def test_made_by_edits_alone(self):
        steps, tree = [], b""
        for depth in range(32):
            steps += [(make(MAP), DONE), (put(b"k"), DONE)] if depth % 2 else [(make(LIST), DONE), (APPEND, DONE)]
            steps += [(LOOK, looked(TEXT, 0, 1 if depth % 2 else NONE, depth + 1))]
        for depth in range(32):
            tree = {b"k": tree} if depth % 2 == 0 else [tree]
        self.check_steps(*steps, (PRINT, printed(form_of(tree))), (make(MAP), DONE), (put(b"x"), TOO_DEEP), (UP, YES),
                         (put(b"x"), DONE), (LOOK, looked(TEXT, 0, 1, 32)), (read(form_of(tree)), DONE),
                         (PRINT, printed(form_of(tree))))

    def test_depth_counts_from_the_place_of_the_value(self):
        self.check_steps(
            *self.down(32), (make(LIST), DONE), (APPEND, TOO_DEEP), (REMOVE, DONE), (APPEND, DONE), (REMOVE, DONE),
            (REMOVE, DONE), (LOOK, looked(LIST, 0, NONE, 30)), (APPEND, DONE), (make(LIST), DONE), (APPEND, DONE),
            (make(LIST), DONE), (APPEND, TOO_DEEP))


def large_map(size, rest):
    """A text, and its printed form of that size: a map with much in its first entry, x in its next, then the rest."""
    end = form_of(rest) if rest else b""
    part = form_of({b"m": nested(31, b"")})[3:]
    count = (size - 8 - len(end)) // len(part)
    fill = b"f: " + b"x" * (size - 7 - len(end) - count * len(part)) + b"\n"
    return b"m:\n" + (b" " + DEEP[2:]) * count + fill + end, b"m:\n" + part * count + fill + end


class TestTooMuch(Checks):
    LAST = 247

    def check_room(self, last, path, call, growth, changed, look):
        """At the path into a large tree that ends with these lines the call is allowed if there is just room for it.

        The growth is of the printed form, whose last lines are then the changed ones; look is asked behind the call.
        """
        text, form = large(MOST_PRINTED - growth, last)
        self.assertEqual(len(form), MOST_PRINTED - growth)
        form_then = form[:len(form) - len(last)] + changed
        self.assertEqual(len(form_then), MOST_PRINTED)
        steps = [(step, YES) for step in path]
        self.check_steps((read(text), DONE), *steps, (call, DONE), (LOOK, look), (PRINT, printed(form_then)))
        text, form = large(MOST_PRINTED - growth + 1, last)
        given = answers(flat([read(text)] + path + [LOOK]))
        before = given[3 + 3 * len(path):]
        self.check_steps((read(text), DONE), *steps, (call, TOO_MUCH), (LOOK, before), (PRINT, printed(form)),
                         (TOP, DONE), (item(self.LAST), YES), (REMOVE, DONE), (item(self.LAST), YES),
                         *steps[1:], (call, DONE), (LOOK, look))

    def test_sizes_are_within_the_interface(self):
        text, form = large(MOST_PRINTED)
        self.assertLess(len(text), MOST_NUMBERS)
        self.assertEqual(form.count(b"\n-"), self.LAST)

    def test_set_a_text(self):
        self.check_room(b"- a\n", [item(248)], set_text(b"abcd"), 3, b"- abcd\n", looked(TEXT, 4, NONE, 1))
        self.check_room(b"- a\n", [item(248)], set_text(b""), 1, b'- ""\n', looked(TEXT, 0, NONE, 1))
        self.check_room(b"-\n  k: a\n", [item(248), enter(b"k")], set_text(b"abcd"), 3, b"-\n  k: abcd\n",
                        looked(TEXT, 4, 1, 2))

    def test_set_a_text_that_must_be_quoted(self):
        self.check_room(b"- abc\n", [item(248)], set_text(b"ab "), 2, b'- "ab "\n', looked(TEXT, 3, NONE, 1))
        self.check_room(b"- abc\n", [item(248)], set_text(b"\0\n\x7f"), 9, b'- "\\x00\\n\\x7f"\n',
                        looked(TEXT, 3, NONE, 1))
        self.check_room(b"- abc\n", [item(248)], set_text(b"- \""), 3, b'- "- \\""\n', looked(TEXT, 3, NONE, 1))
        self.check_room(b"- a\n", [item(248)], set_text(b"{}"), 3, b'- "{}"\n', looked(TEXT, 2, NONE, 1))

    def test_set_on_an_empty_map_or_list(self):
        self.check_room(b"- {}\n", [item(248)], set_text(b"abc"), 1, b"- abc\n", looked(TEXT, 3, NONE, 1))
        self.check_room(b"- []\n", [item(248)], set_text(b"abc"), 1, b"- abc\n", looked(TEXT, 3, NONE, 1))

    def test_set_on_a_value_with_something_in_it(self):
        self.check_room(b"-\n  - a\n", [item(248)], set_text(b"x" * 7), 2, b"- xxxxxxx\n", looked(TEXT, 7, NONE, 1))
        self.check_room(b"-\n  a:\n    - b\n    - c\n  d: e\n", [item(248)], set_text(b"x" * 32), 5,
                        b"- " + b"x" * 32 + b"\n", looked(TEXT, 32, NONE, 1))
        self.check_room(b"-\n  a:\n    - b\n    - c\n  d: e\n", [item(248), enter(b"a")], set_text(b"x" * 19), 4,
                        b"-\n  a: " + b"x" * 19 + b"\n  d: e\n", looked(TEXT, 19, 1, 2))

    def test_set_that_makes_it_smaller(self):
        text, form = large(MOST_PRINTED, b"-\n  - abcdef\n")
        self.check_steps(
            (read(text), DONE), (item(248), YES), (item(0), YES), (set_text(b"abcdefg"), TOO_MUCH),
            (set_text(b"bcdefg"), DONE), (set_text(b"abcde"), DONE), (set_text(b"abcdef"), DONE), (set_text(b""), DONE),
            (set_text(b"abcdefg"), TOO_MUCH), (TELL_TEXT, [1, 0]), (UP, YES), (set_text(b"x"), DONE), (TOP, DONE),
            (PRINT, printed(form[:-13] + b"- x\n")), (set_text(b"\0" * 2000), DONE),
            (PRINT, printed(b'"' + b"\\x00" * 2000 + b'"\n')))

    def test_make(self):
        for kind, signs in ((MAP, b"{}"), (LIST, b"[]")):
            self.check_room(b"- a\n", [item(248)], make(kind), 1, b"- " + signs + b"\n", looked(kind, 0, NONE, 1))
            self.check_room(b"-\n  k: a\n", [item(248), item(0)], make(kind), 1, b"-\n  k: " + signs + b"\n",
                            looked(kind, 0, 1, 2))

    def test_make_that_makes_it_no_larger(self):
        for last in (b"- ab\n", b'- ""\n', b"- {}\n", b"- []\n", b"-\n  - a\n", b"-\n  a: b\n  c: d\n"):
            text, form = large(MOST_PRINTED, last)
            self.check_steps(
                (read(text), DONE), (item(248), YES), (make(MAP), DONE), (make(LIST), DONE),
                (PRINT, printed(form[:-len(last)] + b"- []\n")))

    def test_put(self):
        self.check_room(b"-\n  a: b\n", [item(248)], put(b"k"), 8, b'-\n  a: b\n  k: ""\n', looked(TEXT, 0, 1, 2))
        self.check_room(b"-\n  a: b\n", [item(248)], put(b"key"), 10, b'-\n  a: b\n  key: ""\n', looked(TEXT, 0, 3, 2))
        self.check_room(b"-\n  a: b\n", [item(248)], put(b""), 9, b'-\n  a: b\n  "": ""\n', looked(TEXT, 0, 0, 2))
        self.check_room(b"-\n  a: b\n", [item(248)], put(b"\n\0"), 15, b'-\n  a: b\n  "\\n\\x00": ""\n',
                        looked(TEXT, 0, 2, 2))

    def test_put_into_the_empty_map(self):
        self.check_room(b"- {}\n", [item(248)], put(b"k"), 5, b'-\n  k: ""\n', looked(TEXT, 0, 1, 2))
        self.check_room(b"-\n  - {}\n", [item(248), item(0)], put(b"k"), 7, b'-\n  -\n    k: ""\n',
                        looked(TEXT, 0, 1, 3))
        self.check_room(b"- {}\n", [item(248)], put(b" "), 7, b'-\n  " ": ""\n', looked(TEXT, 0, 1, 2))

    def test_put_of_a_key_that_is_there(self):
        text, form = large(MOST_PRINTED, b"-\n  a: b\n  cc: {}\n")
        self.check_steps(
            (read(text), DONE), (item(248), YES), (put(b"d"), TOO_MUCH), (put(b"a"), DONE),
            (LOOK, looked(TEXT, 1, 1, 2)), (UP, YES), (put(b"cc"), DONE), (LOOK, looked(MAP, 0, 2, 2)),
            (put(b"a"), TOO_MUCH), (LOOK, looked(MAP, 0, 2, 2)), (PRINT, printed(form)))

    def test_append(self):
        self.check_room(b"-\n  - a\n", [item(248)], APPEND, 7, b'-\n  - a\n  - ""\n', looked(TEXT, 0, NONE, 2))
        self.check_room(b"- []\n", [item(248)], APPEND, 4, b'-\n  - ""\n', looked(TEXT, 0, NONE, 2))
        self.check_room(b"-\n  - []\n", [item(248), item(0)], APPEND, 6, b'-\n  -\n    - ""\n',
                        looked(TEXT, 0, NONE, 3))

    def test_append_at_the_top(self):
        text, form = large(MOST_PRINTED - 5)
        self.check_steps((read(text), DONE), (APPEND, DONE), (PRINT, printed(form + b'- ""\n')), (UP, YES),
                         (APPEND, TOO_MUCH), (LOOK, looked(LIST, 249, NONE, 0)))
        text, form = large(MOST_PRINTED - 4)
        self.check_steps((read(text), DONE), (APPEND, TOO_MUCH), (PRINT, printed(form)),
                         (LOOK, looked(LIST, 248, NONE, 0)))

    def test_put_at_the_top(self):
        text, form = large_map(MOST_PRINTED - 6, {})
        self.assertEqual(len(form), MOST_PRINTED - 6)
        self.assertLess(len(text), MOST_NUMBERS)
        self.check_steps((read(text), DONE), (put(b"k"), DONE), (PRINT, printed(form + b'k: ""\n')), (UP, YES),
                         (put(b"l"), TOO_MUCH), (put(b"k"), DONE), (LOOK, looked(TEXT, 0, 1, 1)))
        text, form = large_map(MOST_PRINTED - 5, {})
        self.check_steps((read(text), DONE), (put(b"k"), TOO_MUCH), (PRINT, printed(form)),
                         (LOOK, looked(MAP, 2, NONE, 0)))

    def test_edits_in_an_entry_of_the_top(self):
        text, form = large_map(MOST_PRINTED - 5, {b"r": {}})
        self.assertEqual(len(form), MOST_PRINTED - 5)
        self.check_steps((read(text), DONE), (enter(b"r"), YES), (put(b"kk"), TOO_MUCH), (put(b"k"), DONE),
                         (PRINT, printed(form[:-6] + b'r:\n  k: ""\n')), (set_text(b"abc"), TOO_MUCH), (REMOVE, DONE),
                         (PRINT, printed(form)), (LOOK, looked(MAP, 0, 1, 1)))

    def test_a_remove_makes_room(self):
        text, form = large(MOST_PRINTED)
        self.check_steps(
            (read(text), DONE), (APPEND, TOO_MUCH), *[(item(0), YES)] * 32, (set_text(b"abc"), TOO_MUCH),
            (REMOVE, DONE), (LOOK, looked(LIST, 0, NONE, 31)), (APPEND, DONE), (set_text(b"abc"), TOO_MUCH),
            (set_text(b"ab"), DONE), (TOP, DONE), (APPEND, TOO_MUCH), (PRINT, printed(form.replace(b'""', b"ab", 1))),
            (item(3), YES), (REMOVE, DONE), (APPEND, DONE), (set_text(b"x" * 1056), DONE),
            (set_text(b"x" * 1057), TOO_MUCH), (LOOK, looked(TEXT, 1056, NONE, 1)))

    def test_long_texts(self):
        text, form = large(MOST_PRINTED - 10000, b"- a\n")
        last = item(form.count(b"\n-"))
        for content in (b"x" * 10001, b"\0" * 2499 + b"abc"):
            self.assertEqual(len(word(content)), 10001)
            self.check_steps(
                (read(text), DONE), (last, YES), (set_text(content + b"x"), TOO_MUCH), (LOOK, looked(TEXT, 1, NONE, 1)),
                (PRINT, printed(form)), (set_text(content), DONE), (PRINT, printed(form[:-2] + word(content) + b"\n")))

    def test_a_read_behind_edits_that_is_too_large(self):
        refused = large(MOST_PRINTED + 1)[0]
        self.check_steps(
            (read(b"a: b"), DONE), (put(b"c"), DONE), (make(LIST), DONE), (APPEND, DONE), (set_text(b"d "), DONE),
            (read(refused), TOO_LARGE), (LOOK, looked(TEXT, 2, NONE, 2)), (TELL_TEXT, printed(b"d ")),
            (PRINT, printed(b'a: b\nc:\n  - "d "\n')), (UP, YES), (APPEND, DONE),
            (PRINT, printed(b'a: b\nc:\n  - "d "\n  - ""\n')))

    def test_room_is_counted_anew_behind_a_read_or_begin(self):
        text, form = large(MOST_PRINTED)
        self.check_steps(
            (read(text), DONE), (APPEND, TOO_MUCH), (read(b"- a"), DONE), (APPEND, DONE), (read(text), DONE),
            (APPEND, TOO_MUCH), (BEGIN, DONE), (put(b"a"), DONE), (PRINT, printed(b'a: ""\n')),
            (read(b":"), fault(3, 1, 1)), (read(text), DONE), (make(MAP), DONE), (put(b"b"), DONE),
            (PRINT, printed(b'b: ""\n')))
