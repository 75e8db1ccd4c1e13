"""How much may be read and printed, and long lists of calls."""

from tests.helper import (
    DEEP, DONE, LIST, LOOK, MAP, MOST_HANDED_OVER, MOST_PRINTED, MOST_TAKEN, NO, NONE, PRINT, TEXT, TOO_LARGE, TOP, UP,
    YES, Checks, enter, fault, item, large, looked, printed, read)


class TestTooLarge(Checks):
    def test_just_at_the_limit(self):
        text, form = large(MOST_PRINTED)
        self.assertEqual(len(form), MOST_PRINTED)
        self.assertLessEqual(len(text), MOST_HANDED_OVER)
        self.check([read(text), PRINT, LOOK], [DONE, printed(form), looked(LIST, 248, NONE, 0)])

    def test_one_more(self):
        text, form = large(MOST_PRINTED + 1)
        self.assertEqual(len(form), MOST_PRINTED + 1)
        self.check([read(text), PRINT], [TOO_LARGE, printed(b"{}\n")])
        self.check_keeps(text, TOO_LARGE)

    def test_far_more(self):
        text = DEEP * (MOST_HANDED_OVER // len(DEEP))
        self.assertLessEqual(len(text), MOST_HANDED_OVER)
        self.check_keeps(text, TOO_LARGE)

    def test_a_fault_goes_before_it(self):
        text = large(MOST_PRINTED + 1)[0]
        self.check_fault(text + b"a: b", 5, 249, 1)
        self.check_fault(text + b"\t", 1, 249, 1)

    def test_read_again_after_it(self):
        refused = large(MOST_PRINTED + 1)[0]
        self.check(
            [read(b"a: b"), read(refused), PRINT, read(b"- c"), PRINT],
            [DONE, TOO_LARGE, printed(b"a: b\n"), DONE, printed(b"- c\n")])

    def test_more_than_may_be_read(self):
        # No list of calls is so long; the limit is one of the object's own.
        self.check([read(b"#" * MOST_TAKEN), PRINT], [DONE, printed(b"{}\n")])
        self.check_keeps(b"#" * (MOST_TAKEN + 1), TOO_LARGE)
        self.check_keeps(b"\t" * (MOST_TAKEN + 1), TOO_LARGE)


class TestLongTexts(Checks):
    SIZE = MOST_HANDED_OVER

    def test_one_line(self):
        self.check_reads(b"a" * self.SIZE, b"a" * self.SIZE + b"\n")
        self.check_reads(b"k: " + b"a" * (self.SIZE - 4), b"k: " + b"a" * (self.SIZE - 4) + b"\n")
        self.check_reads(b"#" * self.SIZE, b"{}\n")
        self.check_reads(b" " * self.SIZE, b"{}\n")
        self.check_reads(b" " * (self.SIZE - 1) + b"a", b"a\n")
        self.check_reads(b"-" * self.SIZE, b"-" * self.SIZE + b"\n")
        self.check_reads(b":" * self.SIZE, b'"' + b":" * (self.SIZE - 1) + b'": ""\n')
        self.check_fault(b"- " * (self.SIZE // 2), 6, 1, 65)
        self.check_fault(b"a" * (self.SIZE - 1) + b"\t", 1, 1, self.SIZE)

    def test_very_many_lines(self):
        self.check_reads(b"\n" * self.SIZE, b"{}\n")
        self.check_reads(b"#\n" * (self.SIZE // 2), b"{}\n")
        self.check(
            [read(b"-\n" * (self.SIZE // 2)), PRINT, item(self.SIZE // 2 - 1)],
            [DONE, printed(b'- ""\n' * (self.SIZE // 2)), YES])
        self.check_reads(b"- a\n" * (self.SIZE // 4), b"- a\n" * (self.SIZE // 4))
        self.check_fault(b"\n" * (self.SIZE - 1) + b"\t", 1, self.SIZE, 1)

    def test_one_long_quoted_text(self):
        count = self.SIZE - 2
        self.check_reads(b'"' + b"a" * count + b'"', b"a" * count + b"\n")
        self.check_reads(b'"' + b"\\n" * (count // 2) + b'"', b'"' + b"\\n" * (count // 2) + b'"\n')
        self.check(
            [read(b'"' + b"\\xFF" * (count // 4) + b'"'), LOOK, PRINT],
            [DONE, looked(TEXT, count // 4, NONE, 0), printed(b"\xff" * (count // 4) + b"\n")])
        self.check_fault(b'"' + b"a" * (self.SIZE - 1), 2, 1, 1)
        self.check_fault(b'"' + b"\\\\" * (self.SIZE // 2 - 1) + b"\\", 2, 1, self.SIZE)

    def test_one_long_quoted_key(self):
        key = b'"' + b"\\x00" * 7000 + b'"'
        self.check(
            [read(key + b": a"), PRINT, item(0), LOOK],
            [DONE, printed(key + b": a\n"), YES, looked(TEXT, 1, 7000, 1)])

    def test_very_many_keys_in_one_map(self):
        letters = b"ABCDEFGHIJKLMNOPQRSTUVWXYZabcdefghijklmnopqrstuvwxyz0123456789()*+,./;<=>?@^_|~$&"
        keys = [bytes([one, two]) for one in letters for two in letters][:self.SIZE // 4]
        self.assertGreater(len(keys), 6500)
        text = b"".join(key + b":\n" for key in keys)
        form = b"".join(key + b': ""\n' for key in keys)
        last = len(keys) - 1
        self.check(
            [read(text), PRINT, LOOK, enter(keys[-1]), LOOK, UP, item(last), UP, item(last + 1), enter(b"zzz")],
            [DONE, printed(form), looked(MAP, len(keys), NONE, 0), YES, looked(TEXT, 0, 2, 1), YES, YES, YES, NO, NO])
        self.check_fault(text + keys[0] + b":", 4, len(keys) + 1, 1)


class TestManyCalls(Checks):
    def test_ten_thousand_on_one_object(self):
        text = b"a:\n  - b\n  - cc: {}\nd: e\n"
        form = b"a:\n  - b\n  -\n    cc: {}\nd: e\n"
        round_calls = [enter(b"a"), item(1), enter(b"cc"), LOOK, UP, UP, UP, UP, PRINT, TOP, item(2)]
        round_answers = [YES, YES, YES, looked(MAP, 0, 2, 3), YES, YES, YES, NO, printed(form), DONE, NO]
        rounds = 9999 // len(round_calls)
        self.assertEqual(1 + rounds * len(round_calls), 10000)
        self.check([read(text)] + round_calls * rounds, [DONE] + round_answers * rounds)

    def test_ten_thousand_short_ones(self):
        self.check([[5]] * 10000, [NO] * 10000)
        self.check([[8]] * 10000, [looked(MAP, 0, NONE, 0)] * 10000)
        self.check([read(b"-")] * 10000, [DONE] * 10000)
        self.check([read(b":")] * 10000, [fault(3, 1, 1)] * 10000)

    def test_many_lookups_in_a_large_map(self):
        text = b"".join(b"%d:\n" % number for number in range(2000))
        calls = [read(text)]
        for number in range(2000):
            calls += [enter(b"%d" % number), UP, item(number), UP]
        self.check(calls, [DONE] + [YES] * 8000)

    def test_many_large_prints(self):
        text, form = large(MOST_PRINTED)
        self.check([read(text)] + [PRINT] * 10, [DONE] + [printed(form)] * 10)
