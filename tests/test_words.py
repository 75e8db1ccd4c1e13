"""Keys and texts, quoted and plain, and dashes: what a line is in itself."""

from tests.helper import DONE, LIST, LOOK, MAP, NONE, TEXT, YES, Checks, enter, item, looked, read


class TestQuoted(Checks):
    def check_text(self, line, content):
        """The line is that text at the top: what's printed of it is told by the bytes alone."""
        written = b"".join(b"\\x%02x" % byte for byte in content)
        with self.subTest(line=line):
            self.check([read(line), LOOK], [DONE, looked(TEXT, len(content), NONE, 0)])
            # As keys are told apart by their bytes, a key shows what the bytes are.
            self.check(
                [read(line + b":"), enter(content), LOOK, read(line + b': 1\n"' + written + b'": 2')],
                [DONE, YES, looked(TEXT, 0, len(content), 1), [4, -100, 4, 2, 1]])

    def test_escapes(self):
        for line, content in (
                (b'""', b""), (b'"a"', b"a"), (b'"\\""', b'"'), (b'"\\\\"', b"\\"), (b'"\\n"', b"\n"),
                (b'"\\t"', b"\t"), (b'"\\x41"', b"A"), (b'"\\x00"', b"\0"), (b'"\\xff"', b"\xff"),
                (b'"\\xFF"', b"\xff"), (b'"\\xaF\\xfA"', b"\xaf\xfa"), (b'"\\x0a\\x0A"', b"\n\n"),
                (b'"\\x7f\\x20"', b"\x7f "), (b'"\\x22"', b'"'), (b'"\\x5c"', b"\\"), (b'"\\x5cn"', b"\\n"),
                (b'"\\\\n"', b"\\n"), (b'"\\\\\\n"', b"\\\n"), (b'"\\"\\\\\\n\\t\\x01z"', b'"\\\n\t\x01z'),
                (b'"\\x123"', b"\x123"), (b'" a: b # c "', b" a: b # c "), (b'"- a"', b"- a"), (b'"#"', b"#"),
                (b'"{}"', b"{}"), (b'"[]"', b"[]"), (b'"\x80\xff"', b"\x80\xff"), (b'"\'"', b"'")):
            self.check_text(line, content)

    def test_every_pair_of_hexadecimal_digits(self):
        small = b'"' + b"".join(b"\\x%02x" % byte for byte in range(256)) + b'"'
        large = b'"' + b"".join(b"\\x%02X" % byte for byte in range(256)) + b'"'
        self.check_text(small, bytes(range(256)))
        self.check_text(large, bytes(range(256)))

    def test_every_byte_behind_a_backslash(self):
        for byte in [*range(32, 127), *range(128, 256)]:
            line = b'"ab\\' + bytes([byte]) + b'c"'
            if byte not in b'"\\nt':
                self.check_fault(line, 2, 1, 4)

    def test_every_byte_as_a_hexadecimal_digit(self):
        for byte in [*range(32, 127), *range(128, 256)]:
            if byte in b"0123456789abcdefABCDEF":
                self.check_text(b'"\\x' + bytes([byte]) + b'1"', bytes([16 * int(chr(byte), 16) + 1]))
                self.check_text(b'"\\x1' + bytes([byte]) + b'"', bytes([16 + int(chr(byte), 16)]))
            else:
                self.check_fault(b'"\\x' + bytes([byte]) + b'1"', 2, 1, 2)
                self.check_fault(b'"\\x1' + bytes([byte]) + b'"', 2, 1, 2)

    def test_wrong_backslashes(self):
        for line, column in (
                (b'"\\a"', 2), (b'"a\\', 3), (b'"\\', 2), (b'"\\x', 2), (b'"\\x"', 2), (b'"\\x4', 2),
                (b'"\\x4"', 2), (b'"\\x4g"', 2), (b'"\\xg4"', 2), (b'"\\X41"', 2), (b'"\\ n"', 2), (b'"\\N"', 2),
                (b'"\\T"', 2), (b'"ab\\n\\q\\r"', 6), (b'"\\\\\\q"', 4), (b'"\\q', 2), (b'"a\\"\\', 5),
                (b'   "\\u0041"', 5), (b'- "\\0"', 4), (b'a: "b\\c"', 6), (b'a: "b\\', 6), (b'- - "x": "\\r"', 11),
                (b'"\\x41\\x4"', 6), (b'"\\q": b', 2), (b'"\\r" x', 2), (b'"\\\'"', 2)):
            self.check_fault(line, 2, 1, column)

    def test_no_closing_quote(self):
        for line, column in (
                (b'"', 1), (b'"a', 1), (b'"a: b', 1), (b'"a # b', 1), (b'"\\"', 1), (b'"\\\\\\"', 1), (b'"\\x41', 1),
                (b'  "', 3), (b'- "a', 3), (b'a: "', 4), (b'a: "b\n"', 4), (b'"a\nb"', 1), (b'"a": "', 6)):
            self.check_fault(line, 2, 1, column)

    def test_behind_the_closing_quote_of_a_text(self):
        for text in (b'"b"', b'"b"   ', b'"b" #', b'"b"   # c', b'"b" #: c', b'"b" # "', b'"b" #"c": d'):
            self.check_reads(text, b"b\n")
            self.check_reads(b"- " + text, b"- b\n")
            self.check_reads(b"a: " + text, b"a: b\n")

    def test_behind_the_closing_quote_of_a_key(self):
        for text in (b'"a": b', b'"a" : b', b'"a"    :     b', b'"a": b # c', b'"a": "b"', b'"a":\n b'):
            self.check_reads(text, b"a: b\n")
        for text in (b'"a":', b'"a" :', b'"a": ', b'"a" :    ', b'"a": # c', b'"a" :   #'):
            self.check_reads(text, b'a: ""\n')
        self.check_reads(b'- "a" : b', b"-\n  a: b\n")
        self.check_reads(b'"a": b: c', b'a: "b: c"\n')

    def test_what_must_not_stand_behind_it(self):
        for line, column in (
                (b'"a"b', 4), (b'"a" b', 5), (b'"a"   b', 7), (b'"a"#', 4), (b'"a"# b', 4), (b'"a":b', 4),
                (b'"a" :b', 5), (b'"a":# b', 4), (b'"a":: b', 4), (b'"a" b: c', 5), (b'"a""b"', 4), (b'"a" "b"', 5),
                (b'"a"-', 4), (b'"a" - b', 5), (b'"a"\\', 4), (b'"a" {}', 5), (b'- "a"b', 6), (b'""a: b', 3),
                (b'"a"\xa0', 4), (b'"a"b"\\q"', 4)):
            self.check_fault(line, 2, 1, column)

    def test_what_must_not_stand_behind_it_behind_a_key(self):
        for line, column in (
                (b'k: "a"b', 7), (b'k: "a" b', 8), (b'k: "a"#', 7), (b'k: "a":', 7), (b'k: "a": b', 7),
                (b'k: "a" :', 8), (b'k: "a" : b', 8), (b'"k": "a": b', 9), (b'- k: "a":', 9), (b'k: "a" "b"', 8)):
            self.check_fault(line, 2, 1, column)

    def test_a_quote_further_in_is_a_plain_byte(self):
        self.check_reads(b'a"b": "c"', b'a"b": c\n')
        self.check_reads(b'a: b"c\\q', b'a: b"c\\q\n')
        self.check_reads(b'a "b', b'a "b\n')


class TestPlain(Checks):
    def test_texts(self):
        for text, form in (
                (b"a", b"a\n"), (b"   a   ", b"a\n"), (b"a b  c ", b"a b  c\n"), (b"\\n", b"\\n\n"), (b"'", b"'\n"),
                (b"{", b"{\n"), (b"{a}", b"{a}\n"), (b"{ }", b"{ }\n"), (b"{} {}", b"{} {}\n"), (b"[]]", b"[]]\n"),
                (b"\xc3\xa4\xff", b"\xc3\xa4\xff\n"), (b"a,b;c", b"a,b;c\n"), (b"null", b"null\n")):
            self.check_reads(text, form)

    def test_a_hash_without_a_blank_before_it(self):
        self.check_reads(b"a#b", b"a#b\n")
        self.check_reads(b"a# b#", b"a# b#\n")
        self.check_reads(b"a#: b#c", b"a#: b#c\n")
        self.check_reads(b"a#b: c #d", b"a#b: c\n")
        self.check_reads(b"- a:#", b"- a:#\n")
        self.check_reads(b"a:#: b", b"a:#: b\n")

    def test_comments(self):
        self.check_reads(b"a #b", b"a\n")
        self.check_reads(b"a    #b #c", b"a\n")
        self.check_reads(b"a # b: c", b"a\n")
        self.check_reads(b"a #: b", b"a\n")
        self.check_reads(b"a: #b", b'a: ""\n')
        self.check_reads(b"a:    # b: c\n  d", b"a: d\n")
        self.check_reads(b"a: b   # c: d", b"a: b\n")
        self.check_reads(b"a : b: c # d", b'a: "b: c"\n')
        self.check_reads(b"- #a", b'- ""\n')

    def test_a_colon_without_a_blank_behind_it(self):
        for text in (b"a:b", b":a", b"::a", b"a::b", b"http://x:80/y", b"a :b", b"a:#b", b"a:b c:d", b":-"):
            self.check_reads(text, text + b"\n")
        for text in (b"a:b: c", b":a: c", b"a :b: c"):
            self.check_reads(text, text + b"\n")
        self.check_reads(b"::: c", b'"::": c\n')
        self.check_reads(b"a::: c", b'"a::": c\n')

    def test_keys(self):
        self.check_reads(b"a:", b'a: ""\n')
        self.check_reads(b"a: b", b"a: b\n")
        self.check_reads(b"a:    b", b"a: b\n")
        self.check_reads(b"a  : b", b"a: b\n")
        self.check_reads(b"a b c :", b'a b c: ""\n')
        self.check_reads(b"a\\n: b", b"a\\n: b\n")
        self.check_reads(b"-a: b", b"-a: b\n")
        self.check_reads(b":: b", b'":": b\n')

    def test_blanks_around_a_key_are_taken_away(self):
        self.check(
            [read(b"  a b   :   c d   "), enter(b"a b"), LOOK], [DONE, YES, looked(TEXT, 3, 3, 1)])

    def test_behind_a_key_a_text_may_have_colons(self):
        self.check_reads(b"a: b: c", b'a: "b: c"\n')
        self.check_reads(b"a: b:", b'a: "b:"\n')
        self.check_reads(b"a: :", b'a: ":"\n')
        self.check_reads(b"a: : b", b'a: ": b"\n')
        self.check_reads(b"a: - b", b'a: "- b"\n')
        self.check_reads(b"a: -", b'a: "-"\n')
        self.check_reads(b"- a: b: c", b'-\n  a: "b: c"\n')
        self.check([read(b"a: b: c"), enter(b"a"), LOOK], [DONE, YES, looked(TEXT, 4, 1, 1)])

    def test_a_key_that_is_nothing(self):
        for text, line, column in (
                (b":", 1, 1), (b": a", 1, 1), (b"   :", 1, 4), (b"  : # c", 1, 3), (b"- :", 1, 3), (b"- -  : a", 1, 6),
                (b": : a", 1, 1), (b": a: b", 1, 1), (b"a: b\n: c", 2, 1), (b"a:\n  : c", 2, 3), (b":  ", 1, 1)):
            self.check_fault(text, 3, line, column)

    def test_the_empty_map_and_list(self):
        for signs, kind in ((b"{}", MAP), (b"[]", LIST)):
            for text in (signs, b"  " + signs + b"  ", signs + b" # c", signs + b" #", signs + b"\n\n#\n"):
                self.check([read(text), LOOK], [DONE, looked(kind, 0, NONE, 0)])
                self.check_reads(text, signs + b"\n")
                self.check_reads(b"- " + text, b"- " + signs + b"\n")
            self.check_reads(b"a: " + signs + b" # c", b"a: " + signs + b"\n")
            self.check_reads(b"a:\n  " + signs, b"a: " + signs + b"\n")
            self.check_reads(signs + b": a", b'"' + signs + b'": a\n')
            self.check_reads(signs + b":", b'"' + signs + b'": ""\n')
            self.check_reads(b'"' + signs + b'"', b'"' + signs + b'"\n')
            self.check_reads(b'a: "' + signs + b'"', b'a: "' + signs + b'"\n')
            self.check([read(b'"' + signs + b'"'), LOOK], [DONE, looked(TEXT, 2, NONE, 0)])
            self.check_reads(signs + b"#", signs + b"#\n")
            self.check_reads(signs + b"a", signs + b"a\n")
            self.check_reads(b"a: b " + signs, b"a: b " + signs + b"\n")


class TestDashes(Checks):
    def test_alone(self):
        for text in (b"-", b"- ", b"   -", b"-     ", b"- # c", b"-   #", b"-\n# c\n", b'- ""'):
            self.check_reads(text, b'- ""\n')

    def test_several_on_a_line(self):
        self.check_reads(b"- - a", b"-\n  - a\n")
        self.check_reads(b"-   -      - a", b"-\n  -\n    - a\n")
        self.check_reads(b"- -", b'-\n  - ""\n')
        self.check_reads(b"- - # c", b'-\n  - ""\n')
        self.check_reads(b"- - a: b", b"-\n  -\n    a: b\n")
        self.check_reads(b"- - a:", b'-\n  -\n    a: ""\n')

    def test_no_dashes(self):
        for text in (b"-a", b"--", b"-- a", b"-#", b"-# a", b'-"a"', b"-\xa0"):
            self.check_reads(text, text + b"\n")
        self.check_reads(b"-:", b'"-": ""\n')
        self.check_reads(b"- -a", b"- -a\n")
        self.check_reads(b"-a: b", b"-a: b\n")
        self.check_reads(b"-: b", b'"-": b\n')
        self.check_reads(b"a - b", b"a - b\n")
        self.check_reads(b'"-" ', b'"-"\n')

    def test_a_dash_is_an_item(self):
        self.check(
            [read(b"- - a: b"), LOOK, item(0), LOOK, item(0), LOOK, enter(b"a"), LOOK],
            [DONE, looked(LIST, 1, NONE, 0), YES, looked(LIST, 1, NONE, 1), YES, looked(MAP, 1, NONE, 2), YES,
             looked(TEXT, 1, 1, 3)])
