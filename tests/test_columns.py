"""What the columns say, and which fault is the first."""

from tests.helper import DONE, LIST, LOOK, MAP, NONE, TEXT, YES, Checks, enter, item, looked, read


class TestColumns(Checks):
    def test_a_value_on_the_same_line_or_a_later_one(self):
        for text in (b"a: b", b"a:\n b", b"a:\n  b", b"a:\n\n# c\n             b", b"  a:\n   b"):
            self.check_reads(text, b"a: b\n")
        for text in (b"- b", b"-\n b", b"-\n#\n\n        b", b"   -\n    b"):
            self.check_reads(text, b"- b\n")
        for text in (b"a:\n  - b\n  - c", b"a:\n - b\n - c", b"a:\n         - b\n         - c"):
            self.check_reads(text, b"a:\n  - b\n  - c\n")
        for text in (b"-\n  a: b", b"- a: b", b"-        a: b", b"- a:\n   b", b"-\n a:\n            b"):
            self.check_reads(text, b"-\n  a: b\n")

    def test_a_later_value_of_two_kinds(self):
        self.check_reads(b"a:\n  {}\nb:\n  []\nc:\n  \"\"", b"a: {}\nb: []\nc: \"\"\n")
        self.check_reads(b"a:\n  b: c: d", b'a:\n  b: "c: d"\n')
        self.check_reads(b'a:\n "b": c', b"a:\n  b: c\n")

    def test_nothing_in_a_greater_column_is_the_empty_text(self):
        self.check_reads(b"a:\nb:\nc:", b'a: ""\nb: ""\nc: ""\n')
        self.check_reads(b"-\n-\n-", b'- ""\n- ""\n- ""\n')
        self.check_reads(b"a:\n  b:\nc:\n  -\nd: e", b'a:\n  b: ""\nc:\n  - ""\nd: e\n')
        self.check_reads(b"- a:\n  b:\n-\n- c:", b'-\n  a: ""\n  b: ""\n- ""\n-\n  c: ""\n')
        self.check([read(b"a:\nb: c"), item(0), LOOK], [DONE, YES, looked(TEXT, 0, 1, 1)])

    def test_the_top_may_stand_in_any_column(self):
        self.check_reads(b"     a: b\n     c: d", b"a: b\nc: d\n")
        self.check_reads(b"  - a\n  - b", b"- a\n- b\n")
        self.check_reads(b"         a", b"a\n")

    def test_going_back(self):
        self.check_reads(
            b"a:\n    b:\n          - c\n          - d: e\n            f: g\n          - h\n    i: j\nk: l",
            b"a:\n  b:\n    - c\n    -\n      d: e\n      f: g\n    - h\n  i: j\nk: l\n")

    def test_going_back_over_several_at_once(self):
        self.check_reads(b"a:\n  b:\n    c:\n      - - d\ne: f", b"a:\n  b:\n    c:\n      -\n        - d\ne: f\n")
        self.check_reads(b"- - - a\n    - b\n  - c\n- d", b"-\n  -\n    - a\n    - b\n  - c\n- d\n")

    def test_a_map_goes_on_below_its_first_key_behind_dashes(self):
        self.check_reads(b"- a: b\n  c: d\n- e: f", b"-\n  a: b\n  c: d\n-\n  e: f\n")
        self.check_reads(b"- - a: b\n    c: d\n  - e", b"-\n  -\n    a: b\n    c: d\n  - e\n")

    def test_columns_of_bytes(self):
        # The key ends behind four bytes, so that the list's column is 7 whatever signs they show.
        self.check_reads(b"\xc3\xa4\xc3\xb6:\n      - a\n      - b", b"\xc3\xa4\xc3\xb6:\n  - a\n  - b\n")
        self.check_fault(b"\xc3\xa4\xc3\xb6: \"\\q\"", 2, 1, 8)

    def test_the_same_column_again_after_it_was_closed(self):
        self.check_reads(b"a:\n  b: c\nd:\n  - e\nf:\n  g: h", b"a:\n  b: c\nd:\n  - e\nf:\n  g: h\n")

    def test_keys_of_different_maps_may_be_the_same(self):
        self.check_reads(b"a:\n  a:\n    a: b", b"a:\n  a:\n    a: b\n")
        self.check_reads(b"- a: b\n- a: c", b"-\n  a: b\n-\n  a: c\n")
        self.check_reads(b"x:\n  a: b\ny:\n  a: c", b"x:\n  a: b\ny:\n  a: c\n")


class TestColumnFaults(Checks):
    def test_a_column_between_two(self):
        self.check_fault(b"a:\n    b: c\n  d: e", 5, 3, 3)
        self.check_fault(b"a:\n    - b\n  - d", 5, 3, 3)
        self.check_fault(b"  a: b\n c: d", 5, 2, 2)
        self.check_fault(b"  - a\n- b", 5, 2, 1)
        self.check_fault(b"- - a\n - b", 5, 2, 2)

    def test_a_column_behind_all(self):
        self.check_fault(b"a: b\n  c: d", 5, 2, 3)
        self.check_fault(b"- a\n  - b", 5, 2, 3)
        self.check_fault(b"a: b\n  c", 5, 2, 3)
        self.check_fault(b"a:\n  - b\n   - c", 5, 3, 4)

    def test_a_dash_in_a_maps_column(self):
        self.check_fault(b"a: b\n- c", 5, 2, 1)
        self.check_fault(b"a:\n- c", 5, 2, 1)
        self.check_fault(b"a:\n  b: c\n  - d", 5, 3, 3)
        self.check_fault(b"- a: b\n  - c", 5, 2, 3)

    def test_a_key_in_a_lists_column(self):
        self.check_fault(b"- a\nb: c", 5, 2, 1)
        self.check_fault(b"-\nb: c", 5, 2, 1)
        self.check_fault(b"a:\n  - b\n  c: d", 5, 3, 3)
        self.check_fault(b"- - a\n  b: c", 5, 2, 3)
        self.check_fault(b'- a\n"b": c', 5, 2, 1)

    def test_a_second_value_behind_a_whole_one(self):
        self.check_fault(b"a: b\n   c", 5, 2, 4)
        self.check_fault(b"a:\n  b\n  c", 5, 3, 3)
        self.check_fault(b"- a\n  b", 5, 2, 3)
        self.check_fault(b"a: {}\n  b: c", 5, 2, 3)
        self.check_fault(b"a: []\n  - c", 5, 2, 3)
        self.check_fault(b'a: ""\n  c', 5, 2, 3)
        self.check_fault(b"a: b\n   {}", 5, 2, 4)
        self.check_fault(b"a:\n  b: c\n  []", 5, 3, 3)

    def test_a_text_in_the_column_of_a_map_or_list(self):
        self.check_fault(b"a:\nb", 5, 2, 1)
        self.check_fault(b"-\nb", 5, 2, 1)
        self.check_fault(b"a: b\nc", 5, 2, 1)
        self.check_fault(b"- b\n{}", 5, 2, 1)
        self.check_fault(b'- b\n"c"', 5, 2, 1)
        self.check_fault(b"a:\n  b:\n  c", 5, 3, 3)
        self.check_fault(b"- a:\n  b", 5, 2, 3)
        self.check_fault(b"  a:\n b", 5, 2, 2)

    def test_something_behind_a_text_at_the_top(self):
        for first in (b"a", b"  a", b'"a"', b"{}", b"[]", b'""'):
            for second in (b"b", b"- b", b"b: c", b"{}", b'"b"', b"-", b"b:"):
                self.check_fault(first + b"\n" + second, 5, 2, 1)
                self.check_fault(first + b"\n\n    # c\n    " + second, 5, 4, 5)

    def test_the_place_is_that_of_the_piece(self):
        self.check_fault(b"a: b\n   - - c: d", 5, 2, 4)
        self.check_fault(b"a:\n  - b\n  c: d", 5, 3, 3)


class TestSameKey(Checks):
    def test_beside_one_another(self):
        self.check_fault(b"a: b\na: b", 4, 2, 1)
        self.check_fault(b"a:\na:", 4, 2, 1)
        self.check_fault(b"a: 1\nb: 2\nc: 3\nb: 4", 4, 4, 1)
        self.check_fault(b"x:\n  a: 1\n  a: 2", 4, 3, 3)
        self.check_fault(b"- a: 1\n  a: 2", 4, 2, 3)

    def test_behind_what_lies_further_in(self):
        self.check_fault(b"a:\n  b: c\nd: e\na: f", 4, 4, 1)
        self.check_fault(b"a:\n  - a: b\na:", 4, 3, 1)

    def test_written_otherwise(self):
        self.check_fault(b'a: 1\n"a": 2', 4, 2, 1)
        self.check_fault(b'"\\x61": 1\na  : 2', 4, 2, 1)
        self.check_fault(b'"": 1\n"": 2', 4, 2, 1)

    def test_keys_that_are_not_the_same(self):
        self.check_reads(b'a: 1\nA: 2\n"a ": 3\naa: 4\n"": 5', b'a: 1\nA: 2\n"a ": 3\naa: 4\n"": 5\n')


class TestDepth(Checks):
    def dashes(self, count):
        return b"- " * count

    def keys(self, count):
        return b"".join(b" " * depth + b"k:\n" for depth in range(count))

    def nested(self, count, head, last):
        lines = [b"  " * depth + head for depth in range(count)]
        return b"\n".join(lines) + b" " + last + b"\n"

    def test_depth_31_is_read(self):
        for last, form in ((b"", b'""'), (b"a", b"a"), (b"{}", b"{}"), (b"[]", b"[]")):
            self.check_reads(self.dashes(32) + last, self.nested(32, b"-", form))
            self.check_reads(self.keys(32) + b" " * 32 + last, self.nested(32, b"k:", form))

    def test_depth_32_is_not(self):
        self.check_fault(self.dashes(33), 6, 1, 65)
        self.check_fault(self.dashes(33) + b"a", 6, 1, 65)
        self.check_fault(self.dashes(32) + b"a: b", 6, 1, 65)
        self.check_fault(self.dashes(32) + b"a:", 6, 1, 65)
        self.check_fault(self.dashes(32) + b"\n" + b" " * 70 + b"- a", 6, 2, 71)
        self.check_fault(self.keys(33), 6, 33, 33)
        self.check_fault(self.keys(32) + b" " * 32 + b"- a", 6, 33, 33)
        self.check_fault(self.keys(32) + b" " * 40 + b'"a": b', 6, 33, 41)

    def test_far_too_deep(self):
        self.check_fault(self.dashes(14500), 6, 1, 65)

    def test_more_at_depth_31(self):
        text = self.dashes(32) + b"a\n" + b" " * 62 + b"- b\n" + b" " * 62 + b"- {}\n" + b" " * 60 + b"- - c\n"
        form = (self.nested(32, b"-", b"a") + b" " * 62 + b"- b\n" + b" " * 62 + b"- {}\n"
                + b" " * 60 + b"-\n" + b" " * 62 + b"- c\n")
        self.check_reads(text, form)
        self.check_fault(text + b" " * 62 + b"- - d", 6, 5, 65)

    def test_both_kinds_in_turn(self):
        line = b"- a:\n"
        text = b"".join(b" " * (3 * depth) + line for depth in range(16))
        self.check([read(text), item(0), enter(b"a"), item(0), LOOK],
                   [DONE, YES, YES, YES, looked(MAP, 1, NONE, 3)])
        self.check([read(text + b" " * 48 + b"[]")] + [item(0)] * 32 + [LOOK],
                   [DONE] + [YES] * 32 + [looked(LIST, 0, 1, 32)])
        self.check_fault(text + b" " * 48 + b"-", 6, 17, 49)


class TestTheFirstFault(Checks):
    def test_on_two_lines(self):
        own = ((b"\t", 1, 1), (b'"\\q"', 2, 2), (b'"', 2, 1), (b": a", 3, 1), (b'"a" b', 2, 5))
        for line, kind, column in own:
            # A fault of a line in itself, and then one of the columns, of a key, of the depth.
            self.check_fault(b"a: b\n" + line + b"\na: c\n  d", kind, 2, column)
            self.check_fault(line + b"\n" + b"- " * 33, kind, 1, column)
            # The other way round.
            self.check_fault(b"a: b\na: c\n" + line, 4, 2, 1)
            self.check_fault(b"a: b\n  c\n" + line, 5, 2, 3)
            self.check_fault(b"- " * 33 + b"\n" + line, 6, 1, 65)

    def test_two_of_lines_in_themselves(self):
        self.check_fault(b': a\n"\\q', 3, 1, 1)
        self.check_fault(b'"\\q\n: a', 2, 1, 2)
        self.check_fault(b": a\n\t", 3, 1, 1)
        self.check_fault(b"a\t\n: a", 1, 1, 2)

    def test_a_dash_before_a_fault_of_the_line(self):
        self.check_fault(b'a: b\n- "\\q"', 5, 2, 1)
        self.check_fault(b'a: b\n- "c', 5, 2, 1)
        self.check_fault(b'a: b\n- "c" d', 5, 2, 1)
        self.check_fault(b"a: b\n- : c", 5, 2, 1)
        self.check_fault(b"- " * 33 + b'"\\q"', 6, 1, 65)
        self.check_fault(b"- " * 33 + b": a", 6, 1, 65)

    def test_a_good_dash_before_a_fault_of_the_line(self):
        self.check_fault(b'- a\n- "\\q"', 2, 2, 4)
        self.check_fault(b"- a\n- : b", 3, 2, 3)
        self.check_fault(b'- a\n- "b" c', 2, 2, 7)
        self.check_fault(b"- " * 32 + b'"\\q"', 2, 1, 66)
        self.check_fault(b"- " * 32 + b": a", 3, 1, 65)

    def test_a_key_before_a_fault_of_the_line(self):
        self.check_fault(b'a: b\na: "\\q"', 4, 2, 1)
        self.check_fault(b'a: b\n"a": "\\q"', 4, 2, 1)
        self.check_fault(b'a: b\na: "c" d', 4, 2, 1)
        self.check_fault(b'a: b\n  c: "\\q"', 5, 2, 3)
        self.check_fault(b'- a\nc: "d', 5, 2, 1)
        self.check_fault(b"- " * 32 + b'a: "\\q"', 6, 1, 65)
        self.check_fault(b'a: b\nc: "\\q"', 2, 2, 5)

    def test_a_quoted_one_with_a_fault_is_no_piece(self):
        for word, column in (
                (b'"\\q"', 2), (b'"c\\q": d', 3), (b'"c', 1), (b'"c" d', 5), (b'"c"d: e', 4), (b'"c":d', 4),
                (b'"a"#', 4), (b'"a\\q": x', 3), (b'"a" :x', 5)):
            self.check_fault(b"a: b\n" + word, 2, 2, column)
            self.check_fault(b"a: b\n  " + word, 2, 2, column + 2)
            self.check_fault(b"- b\n" + word, 2, 2, column)
            self.check_fault(b"b\n " + word, 2, 2, column + 1)
            self.check_fault(b"- " * 32 + word, 2, 1, column + 64)

    def test_a_key_that_is_nothing_is_no_piece(self):
        self.check_fault(b"a: b\n  : c", 3, 2, 3)
        self.check_fault(b"- a\n: c", 3, 2, 1)
        self.check_fault(b"a\n : c", 3, 2, 2)
        self.check_fault(b"a:\n    b: c\n  : d", 3, 3, 3)

    def test_a_control_byte_goes_before_all_of_its_line(self):
        self.check_fault(b"a: b\na: c\t", 1, 2, 5)
        self.check_fault(b"a: b\n  c\x7f", 1, 2, 4)
        self.check_fault(b"a: b\n- c # \r", 1, 2, 7)
        self.check_fault(b"a: b\n  c\nd: \t", 5, 2, 3)
        self.check_fault(b"- " * 40 + b"\0", 1, 1, 81)

    def test_two_of_the_others(self):
        self.check_fault(b"a: b\na: c\n  d: e", 4, 2, 1)
        self.check_fault(b"a: b\n  c: d\na: e", 5, 2, 3)
        self.check_fault(b"a: b\n- - c\n" + b"- " * 33, 5, 2, 1)
        self.check_fault(b"- a: 1\n  a: 2\nb: c", 4, 2, 3)
        self.check_fault(b"- a: b\n- " + b"- " * 33 + b"\nc", 6, 2, 65)
