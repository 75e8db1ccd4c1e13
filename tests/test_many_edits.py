"""Long lists of edits, long keys and texts, and edits on large trees."""

from tests.helper import (
    APPEND, DONE, LIST, LOOK, MAP, MOST_CALLS, MOST_HANDED_OVER, MOST_NUMBERS, MOST_PRINTED, NO, NONE, PRINT, REMOVE,
    TELL_KEY, TELL_TEXT, TEXT, TOO_MUCH, TOP, UP, YES,
    Checks, enter, flat, form_of, item, large, looked, make, printed, put, read, set_text, word)

KEYS = [b"%c%c" % (first, second) for first in range(128, 208) for second in range(128, 208)]


class ManyChecks(Checks):
    def check_many(self, calls, expected):
        """Like check, for lists that are as long as may be handed in, or nearly."""
        self.assertLessEqual(len(calls), MOST_CALLS)
        self.assertLessEqual(len(flat(calls)), MOST_NUMBERS)
        self.check(calls, expected)


class TestManyEdits(ManyChecks):
    def test_put_of_ever_new_keys(self):
        keys = KEYS[:4990]
        calls = [call for key in keys for call in (put(key), UP)]
        form = b"".join(key + b': ""\n' for key in keys)
        self.check_many(
            calls + [LOOK, PRINT, enter(keys[-1]), UP, item(4989), TELL_KEY, UP, put(keys[0]), TELL_KEY],
            [DONE, YES] * 4990 + [looked(MAP, 4990, NONE, 0), printed(form), YES, YES, YES, printed(keys[-1]), YES,
                                  DONE, printed(keys[0])])

    def test_append(self):
        self.check_many(
            [make(LIST)] + [APPEND, UP] * 4998 + [LOOK, PRINT, item(4997)],
            [DONE] + [DONE, YES] * 4998 + [looked(LIST, 4998, NONE, 0), printed(b'- ""\n' * 4998), YES])

    def test_append_until_it_is_too_much(self):
        down = [make(LIST)] + [APPEND, make(LIST)] * 31
        form = b"".join(b"  " * depth + b"-\n" for depth in range(31))
        line = b"  " * 31 + b'- ""\n'
        count = (MOST_PRINTED - len(form)) // len(line)
        tries = (MOST_CALLS - len(down) - 2 * count) // 2 - 1
        self.assertGreater(tries, 1000)
        self.check_many(
            down + [APPEND, UP] * count + [APPEND, LOOK] * tries + [PRINT],
            [DONE] * len(down) + [DONE, YES] * count + [TOO_MUCH, looked(LIST, count, NONE, 31)] * tries
            + [printed(form + line * count)])

    def test_set_again_and_again(self):
        texts = [bytes([number % 256]) for number in range(9990)]
        self.check_many(
            [set_text(text) for text in texts] + [TELL_TEXT, PRINT],
            [DONE] * 9990 + [printed(texts[-1]), printed(word(texts[-1]) + b"\n")])

    def test_make_again_and_again(self):
        self.check_many([make(1 + number % 2) for number in range(9999)] + [LOOK],
                        [DONE] * 9999 + [looked(MAP, 0, NONE, 0)])

    def test_put_and_remove_by_turns(self):
        calls = [call for number in range(4990) for call in (put(bytes([number % 256])), REMOVE)]
        self.check_many(calls + [LOOK, PRINT], [DONE] * 9980 + [looked(MAP, 0, NONE, 0), printed(b"{}\n")])

    def test_put_and_remove_by_turns_in_a_map_with_others(self):
        kept = {key: b"" for key in KEYS[:2000]}
        form = form_of(kept)
        calls = [call for number in range(4000) for call in (put(bytes([number % 256])), REMOVE)]
        self.check_many([read(form.replace(b' ""', b""))] + calls + [LOOK, PRINT],
                        [DONE] * 8001 + [looked(MAP, 2000, NONE, 0), printed(form)])

    def test_remove_all_from_the_last_to_the_first(self):
        count = 3000
        calls, told = [], []
        for index in reversed(range(count)):
            calls += [item(index + 1), item(index), REMOVE]
            told += [NO, YES, DONE]
        self.check_many([read(b"-\n" * count)] + calls + [PRINT], [DONE] + told + [printed(b"[]\n")])

    def test_remove_all_from_the_first_to_the_last(self):
        count = 4000
        self.check_many([read(b"-\n" * count)] + [item(0), REMOVE] * count + [item(0), PRINT],
                        [DONE] + [YES, DONE] * count + [NO, printed(b"[]\n")])

    def test_remove_every_other_entry_by_its_key(self):
        keys = KEYS[:3000]
        calls = [call for key in keys[::2] for call in (enter(key), REMOVE, enter(key))]
        self.check_many([read(b"".join(key + b":\n" for key in keys))] + calls + [LOOK, PRINT],
                        [DONE] + [YES, DONE, NO] * 1500 + [looked(MAP, 1500, NONE, 0),
                                                           printed(b"".join(key + b': ""\n' for key in keys[1::2]))])

    def test_all_kinds_of_edits(self):
        calls = [put(b"k"), make(LIST), APPEND, set_text(b"a"), UP, APPEND, make(MAP), put(b"b"), REMOVE, REMOVE, PRINT,
                 item(0), TELL_TEXT, REMOVE, UP]
        told = [DONE, DONE, DONE, DONE, YES, DONE, DONE, DONE, DONE, DONE, printed(b"k:\n  - a\n"), YES, printed(b"a"),
                DONE, YES]
        rounds = MOST_CALLS // len(calls)
        self.check_many(calls * rounds + [PRINT], told * rounds + [printed(b"k: []\n")])


class TestLongKeysAndTexts(Checks):
    def test_keys(self):
        for key in (b"k" * 14000, b"\0" * 14000, bytes(range(250)) * 56):
            self.check([put(key), TELL_KEY, LOOK, UP, put(key), set_text(b"t"), PRINT],
                       [DONE, printed(key), looked(TEXT, 0, 14000, 1), YES, DONE, DONE, printed(word(key) + b": t\n")])

    def test_keys_that_differ_at_their_end(self):
        first, second = b"k" * 9000 + b"1", b"k" * 9000 + b"2"
        self.check([put(first), UP, put(second), UP, LOOK, enter(first), REMOVE, PRINT],
                   [DONE, YES, DONE, YES, looked(MAP, 2, NONE, 0), YES, DONE, printed(second + b': ""\n')])

    def test_texts(self):
        size = MOST_HANDED_OVER
        for text in (b"t" * size, b'"' * size, b"\x1f" * size, b"a: " * (size // 3), b"- " * (size // 2), b" " * size):
            self.check([put(b"k"), set_text(text), TELL_TEXT, LOOK, PRINT],
                       [DONE, DONE, printed(text), looked(TEXT, len(text), 1, 1), printed(b"k: " + word(text) + b"\n")])

    def test_one_behind_another(self):
        texts = [bytes([65 + number]) * 4900 for number in range(6)]
        calls = [make(LIST)] + [call for text in texts for call in (APPEND, set_text(text), UP)]
        self.check(calls + [PRINT, item(3), REMOVE, PRINT],
                   [DONE] + [DONE, DONE, YES] * 6 + [printed(form_of(texts)), YES, DONE,
                                                     printed(form_of(texts[:3] + texts[4:]))])


class TestLargeTrees(ManyChecks):
    def test_sets_near_the_limit(self):
        text, form = large(MOST_PRINTED, b"- a\n")
        calls = [set_text(b""), set_text(b"b"), set_text(b"cc")]
        rounds = 1400
        self.check_many([read(text), item(248)] + calls * rounds + [PRINT],
                        [DONE, YES] + [TOO_MUCH, DONE, TOO_MUCH] * rounds + [printed(form[:-2] + b"b\n")])

    def test_puts_near_the_limit(self):
        text, form = large(MOST_PRINTED - 5, b"- {}\n")
        calls = [put(b"k"), UP, put(b"l"), put(b"k"), REMOVE]
        told = [DONE, YES, TOO_MUCH, DONE, DONE]
        rounds = 900
        self.check_many([read(text), item(248)] + calls * rounds + [PRINT],
                        [DONE, YES] + told * rounds + [printed(form)])

    def test_appends_near_the_limit(self):
        text, form = large(MOST_PRINTED - 7)
        calls = [APPEND, UP, APPEND, item(248), REMOVE, item(0), UP]
        told = [DONE, YES, TOO_MUCH, YES, DONE, YES, YES]
        rounds = 1400
        self.check_many([read(text)] + calls * rounds + [PRINT], [DONE] + told * rounds + [printed(form)])

    def test_takes_apart_what_it_read(self):
        text, form = large(MOST_PRINTED)
        self.check_many([read(text)] + [item(0), REMOVE] * 247 + [PRINT, item(0), REMOVE, PRINT, APPEND, TOP, LOOK],
                        [DONE] + [YES, DONE] * 247 + [printed(form[form.rindex(b"\n-") + 1:]), YES, DONE,
                                                      printed(b"[]\n"), DONE, DONE, looked(LIST, 1, NONE, 0)])
