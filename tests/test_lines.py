"""Lines, comments, and the bytes that may stand in no line."""

from tests.helper import Checks


class TestLines(Checks):
    def test_the_last_line_feed_may_lack(self):
        for text in (b"a: b", b"a: b\n", b"a: b\n\n", b"a: b\n   "):
            self.check_reads(text, b"a: b\n")
        for text in (b"- a\n- b", b"- a\n- b\n"):
            self.check_reads(text, b"- a\n- b\n")

    def test_nothing_at_all_is_the_empty_map(self):
        for text in (b"", b"\n", b"\n\n\n", b" ", b"   \n  ", b"#", b"# a: b", b"#a\n  #b\n\n   \n#", b"#\n"):
            self.check_reads(text, b"{}\n")

    def test_lines_of_blanks(self):
        self.check_reads(b"\n  \na:\n\n          \n  b: c\n \n\n  d: e\n     ", b"a:\n  b: c\n  d: e\n")

    def test_comments_on_lines_of_their_own(self):
        self.check_reads(
            b"# one\na:\n# two\n        #three\n  - b\n #\n  - c\n#", b"a:\n  - b\n  - c\n")

    def test_a_comment_may_have_anything_that_a_line_may(self):
        self.check_reads(b'a: b # "c\\q": - # {}\xff\x80: \n#": \\', b"a: b\n")

    def test_comments_count_as_lines(self):
        self.check_fault(b"# one\n\n   \na: b\n  # five\nc", 5, 6, 1)

    def test_a_byte_of_128_or_more_is_no_blank(self):
        self.check_reads(b"\xa0: \x80\xa0", b"\xa0: \x80\xa0\n")


class TestControlBytes(Checks):
    def test_each_byte(self):
        for byte in [*range(10), *range(11, 32), 127]:
            self.check_fault(b"a" + bytes([byte]), 1, 1, 2)
        for byte in [32, *range(128, 256)]:
            self.check_reads(b"a" + bytes([byte]) + b"b", b"a" + bytes([byte]) + b"b\n")

    def test_wherever_it_stands(self):
        for text, column in (
                (b"\t", 1), (b"a: b\t", 5), (b"\ta: b", 1), (b"a:\tb", 3), (b"-\ta", 2), (b"a: b\r\n", 5),
                (b"a\0b: c", 2), (b"# a\x7f", 4), (b"a # \r", 5), (b'"a\tb"', 3), (b'"a\x7fb": c', 3),
                (b'a: "\x1f"', 5), (b"   \t  ", 4), (b" \r", 2), (b"  \0", 3), (b"   # \x01", 6), (b"- \x0b", 3)):
            for byte in (0, 9, 13, 127):
                changed = text[:column - 1] + bytes([byte]) + text[column:]
                self.check_fault(changed, 1, 1, column)

    def test_in_a_later_line(self):
        self.check_fault(b"a: b\n\n# c\n  \tx", 1, 4, 3)
        self.check_fault(b"a: b\r\nc: d\r\n", 1, 1, 5)

    def test_the_first_of_several(self):
        self.check_fault(b"ab\x01\x02\x7f\n\x03", 1, 1, 3)

    def test_nothing_else_of_the_line_is_looked_at(self):
        for line in (
                b'"a\\q" \t', b': a \t', b'"a" b \t', b"x \t", b'- "\t', b"a: c \t", b"    y \t", b"- \\ \t"):
            self.check_fault(b"a: b\n" + line, 1, 2, line.index(b"\t") + 1)
        self.check_fault(b"- " * 33 + b"\t", 1, 1, 67)
