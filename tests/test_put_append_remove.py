"""The edits put, append and remove: what comes into a map or list, and what goes."""

from tests.helper import (
    APPEND, DONE, LIST, LOOK, MAP, MOST_TAKEN, NO, NONE, NOT_OF_THIS, PRINT, REMOVE, TELL_KEY, TELL_TEXT, TEXT, TOP,
    TOO_MUCH, UP, WRITTEN, YES,
    Checks, enter, form_of, item, kind_of, looked, make, printed, put, read, read_tree, set_text, word)


class TestPut(Checks):
    def test_written_out(self):
        self.check([[13, 1, 97], [8], [3]], [[2, 0, 0], [5, 0, 0, 0, 1, 1], [7, 0, 97, 58, 32, 34, 34, 10]])

    def test_into_the_empty_map(self):
        self.check([put(b"a"), LOOK, TELL_KEY, TELL_TEXT, PRINT, UP, LOOK],
                   [DONE, looked(TEXT, 0, 1, 1), printed(b"a"), [1, 0], printed(b'a: ""\n'), YES,
                    looked(MAP, 1, NONE, 0)])

    def test_a_new_key_stands_behind_the_others(self):
        self.check([read(b"m: 1\nz: 2"), put(b"a"), LOOK, UP, put(b"b"), UP, PRINT, item(2), TELL_KEY, UP, item(3),
                    TELL_KEY, UP, LOOK],
                   [DONE, DONE, looked(TEXT, 0, 1, 1), YES, DONE, YES, printed(b'm: 1\nz: 2\na: ""\nb: ""\n'), YES,
                    printed(b"a"), YES, YES, printed(b"b"), YES, looked(MAP, 4, NONE, 0)])

    def test_a_key_that_is_there(self):
        form = b"a: 1\nb:\n  - x\nc: {}\n"
        self.check([read(form), put(b"b"), LOOK, TELL_KEY, PRINT, UP, put(b"c"), LOOK, UP, put(b"a"), TELL_TEXT, PRINT],
                   [DONE, DONE, looked(LIST, 1, 1, 1), printed(b"b"), printed(form), YES, DONE, looked(MAP, 0, 1, 1),
                    YES, DONE, printed(b"1"), printed(form)])

    def test_further_in(self):
        self.check([read(b"a:\n  - b: c\nd: e"), enter(b"a"), item(0), put(b"f"), LOOK, PRINT, UP, put(b"b"),
                    TELL_TEXT],
                   [DONE, YES, YES, DONE, looked(TEXT, 0, 1, 3), printed(b'a:\n  -\n    b: c\n    f: ""\nd: e\n'), YES,
                    DONE, printed(b"c")])

    def test_into_an_empty_map_further_in(self):
        self.check([read(b"a: {}\nb:\n  - {}"), enter(b"a"), put(b"x"), TOP, enter(b"b"), item(0), put(b"y"), PRINT],
                   [DONE, YES, DONE, DONE, YES, YES, DONE, printed(b'a:\n  x: ""\nb:\n  -\n    y: ""\n')])

    def test_not_on_a_text_or_a_list(self):
        for tree, kind in ((b"", TEXT), (b"a", TEXT), ([], LIST), ([b"a", {b"a": b"b"}], LIST)):
            self.check([read_tree(tree), put(b"a"), put(b""), LOOK, PRINT],
                       [DONE, NOT_OF_THIS, NOT_OF_THIS, looked(kind, len(tree), NONE, 0), printed(form_of(tree))])
            self.check([read_tree({b"k": tree}), item(0), put(b"a"), LOOK, PRINT],
                       [DONE, YES, NOT_OF_THIS, looked(kind, len(tree), 1, 1), printed(form_of({b"k": tree}))])

    def test_the_empty_key(self):
        self.check([put(b""), LOOK, set_text(b"v"), UP, put(b""), TELL_TEXT, UP, PRINT, LOOK],
                   [DONE, looked(TEXT, 0, 0, 1), DONE, YES, DONE, printed(b"v"), YES, printed(b'"": v\n'),
                    looked(MAP, 1, NONE, 0)])

    def test_keys_that_differ_in_one_byte(self):
        keys = [b"key", b"Key", b"kex", b"ke", b"keyy", b"key ", b" key", b"key:", b"\xebey", b"k\0y", b"k\ney"]
        keys += [bytes([byte]) for byte in range(256)]
        calls, told = [], []
        for number, key in enumerate(keys):
            calls += [put(key), LOOK, set_text(b"%d" % number), UP]
            told += [DONE, looked(TEXT, 0, len(key), 1), DONE, YES]
        for number, key in enumerate(keys):
            calls += [put(key), TELL_TEXT, TELL_KEY, UP, item(number), TELL_KEY, UP]
            told += [DONE, printed(b"%d" % number), printed(key), YES, YES, printed(key), YES]
        form = b"".join(word(key) + b": %d\n" % number for number, key in enumerate(keys))
        self.check(calls + [LOOK, PRINT], told + [looked(MAP, len(keys), NONE, 0), printed(form)])

    def test_plain_and_quoted(self):
        for content, form in WRITTEN:
            self.check([put(content), PRINT, TELL_KEY, read(form + b": x"), put(content), TELL_TEXT],
                       [DONE, printed(form + b': ""\n'), printed(content), DONE, DONE, printed(b"x")])

    def test_read_and_put_know_the_same_keys(self):
        self.check([read(b'"\\x61 b"  : 1'), put(b"a b"), TELL_TEXT, UP, put(b"a b "), UP, LOOK],
                   [DONE, DONE, printed(b"1"), YES, DONE, YES, looked(MAP, 2, NONE, 0)])

    def test_more_than_may_be_handed_over(self):
        # No list of calls is so long; the limit is one of the object's own.
        self.check([put(b"k" * MOST_TAKEN), LOOK], [DONE, looked(TEXT, 0, MOST_TAKEN, 1)])
        self.check([put(b"k" * (MOST_TAKEN + 1)), LOOK, PRINT], [TOO_MUCH, looked(MAP, 0, NONE, 0), printed(b"{}\n")])
        self.check([make(LIST), put(b"k" * (MOST_TAKEN + 1))], [DONE, NOT_OF_THIS])


class TestAppend(Checks):
    def test_written_out(self):
        self.check([[12, 2], [14], [8], [3]], [[2, 0, 0], [2, 0, 0], [5, 0, 0, 0, -1, 1], [6, 0, 45, 32, 34, 34, 10]])

    def test_to_the_empty_list(self):
        self.check([read(b"[]"), APPEND, LOOK, TELL_TEXT, TELL_KEY, PRINT, UP, LOOK],
                   [DONE, DONE, looked(TEXT, 0, NONE, 1), [1, 0], NOT_OF_THIS, printed(b'- ""\n'), YES,
                    looked(LIST, 1, NONE, 0)])

    def test_to_one_with_items(self):
        self.check([read(b"- a\n- {}"), APPEND, set_text(b"b"), UP, APPEND, UP, PRINT, item(2), TELL_TEXT, UP, item(3),
                    TELL_TEXT, UP, LOOK],
                   [DONE, DONE, DONE, YES, DONE, YES, printed(b'- a\n- {}\n- b\n- ""\n'), YES, printed(b"b"), YES, YES,
                    [1, 0], YES, looked(LIST, 4, NONE, 0)])

    def test_further_in(self):
        self.check([read(b"a:\n  - b\n  - []\nc: d"), enter(b"a"), APPEND, LOOK, UP, item(1), APPEND, LOOK, PRINT],
                   [DONE, YES, DONE, looked(TEXT, 0, NONE, 2), YES, YES, DONE, looked(TEXT, 0, NONE, 3),
                    printed(b'a:\n  - b\n  -\n    - ""\n  - ""\nc: d\n')])

    def test_not_on_a_text_or_a_map(self):
        for tree, kind in ((b"", TEXT), (b"a", TEXT), ({}, MAP), ({b"a": b"b", b"c": [b"d"]}, MAP)):
            self.check([read_tree(tree), APPEND, LOOK, PRINT],
                       [DONE, NOT_OF_THIS, looked(kind, len(tree), NONE, 0), printed(form_of(tree))])
            self.check([read_tree([tree]), item(0), APPEND, LOOK, PRINT],
                       [DONE, YES, NOT_OF_THIS, looked(kind, len(tree), NONE, 1), printed(form_of([tree]))])

    def test_no_two_share_anything(self):
        self.check([make(LIST), APPEND, UP, APPEND, make(LIST), APPEND, set_text(b"x"), UP, UP, APPEND, make(MAP),
                    put(b"k"), PRINT],
                   [DONE, DONE, YES, DONE, DONE, DONE, DONE, YES, YES, DONE, DONE, DONE,
                    printed(b'- ""\n-\n  - x\n-\n  k: ""\n')])


class TestRemove(Checks):
    # Where a map or list stands: what is around it, the calls that go there, how long its key is.
    PLACES = (
        (lambda value: value, [], NONE),
        (lambda value: [b"x", value, b"y"], [item(1)], NONE),
        (lambda value: {b"u": b"x", b"key": value, b"w": b"y"}, [enter(b"key")], 3))

    def check_removed(self, value, index, left):
        """What is left of the value without that entry or item, wherever it stands."""
        for around, path, key_length in self.PLACES:
            steps = [(read_tree(around(value)), DONE)] + [(step, YES) for step in path]
            steps += [(item(index), YES), (REMOVE, DONE)]
            steps += [(LOOK, looked(kind_of(left), len(left), key_length, len(path)))]
            steps += [(PRINT, printed(form_of(around(left)))), (item(len(left)), NO)]
            for place in range(len(left)):
                steps += [(item(place), YES), (UP, YES)]
            self.check_steps(*steps)

    def test_written_out(self):
        self.check([[13, 1, 97], [15], [8], [15], [3]],
                   [[2, 0, 0], [2, 0, 0], [5, 0, 1, 0, -1, 0], [1, -1], [4, 0, 123, 125, 10]])

    def test_entries(self):
        tree = {b"a": b"1", b"b": b"2", b"c": b"3", b"d": b"4"}
        for index, key in enumerate(tree):
            self.check_removed(tree, index, {other: text for other, text in tree.items() if other != key})

    def test_items(self):
        tree = [b"1", b"2", b"3", b"4", b"5"]
        for index in range(5):
            self.check_removed(tree, index, tree[:index] + tree[index + 1:])

    def test_items_that_are_the_same(self):
        self.check_removed([b"x", b"x", b"y", b"x"], 1, [b"x", b"y", b"x"])
        self.check_removed([b"x", b"x", b"y", b"x"], 3, [b"x", b"x", b"y"])
        self.check_removed([[], [], {}, []], 0, [[], {}, []])

    def test_the_only_one(self):
        for value in (b"", b"a", {}, [], {b"k": b"v"}, [b"v", b"w"]):
            self.check_removed([value], 0, [])
            self.check_removed({b"a": value}, 0, {})

    def test_one_with_much_in_it(self):
        much = {b"k%d" % number: [b"a", {b"b": [b"c"] * number}] for number in range(30)}
        self.check_removed([b"x", much, b"y"], 1, [b"x", b"y"])
        self.check_removed({b"x": b"1", b"y": much, b"z": b"2"}, 1, {b"x": b"1", b"z": b"2"})

    def test_at_the_top(self):
        for tree, kind in ((b"a", TEXT), ({}, MAP), ({b"a": b"b"}, MAP), ([], LIST), ([b"a", b"b"], LIST)):
            self.check([read_tree(tree), REMOVE, LOOK, PRINT],
                       [DONE, NOT_OF_THIS, looked(kind, len(tree), NONE, 0), printed(form_of(tree))])
        self.check([REMOVE, PRINT], [NOT_OF_THIS, printed(b"{}\n")])

    def test_the_cursor_is_then_on_the_one_around(self):
        self.check([read(b"a:\n  - b\n  - c: d"), enter(b"a"), item(1), enter(b"c"), REMOVE, LOOK, REMOVE, LOOK,
                    REMOVE, LOOK, REMOVE, PRINT],
                   [DONE, YES, YES, YES, DONE, looked(MAP, 0, NONE, 2), DONE, looked(LIST, 1, 1, 1), DONE,
                    looked(MAP, 0, NONE, 0), NOT_OF_THIS, printed(b"{}\n")])

    def test_a_key_may_be_put_again(self):
        self.check([read(b"a: 1\nb: 2\nc: 3"), enter(b"b"), REMOVE, enter(b"b"), put(b"b"), LOOK, TELL_TEXT, UP, PRINT,
                    item(2), TELL_KEY, UP, item(1), TELL_KEY],
                   [DONE, YES, DONE, NO, DONE, looked(TEXT, 0, 1, 1), [1, 0], YES, printed(b'a: 1\nc: 3\nb: ""\n'), YES,
                    printed(b"b"), YES, YES, printed(b"c")])

    def test_enter_and_item_behind_it(self):
        self.check([read(b"a: 1\nb: 2\nc: 3"), enter(b"a"), REMOVE, enter(b"a"), LOOK, enter(b"c"), TELL_TEXT, UP,
                    item(0), TELL_TEXT, UP, item(1), TELL_TEXT, UP, item(2), put(b"c"), TELL_TEXT],
                   [DONE, YES, DONE, NO, looked(MAP, 2, NONE, 0), YES, printed(b"3"), YES, YES, printed(b"2"), YES, YES,
                    printed(b"3"), YES, NO, DONE, printed(b"3")])

    def test_first_and_last_by_turns(self):
        items = [b"%d" % number for number in range(20)]
        steps = [(read_tree(items), DONE)]
        while items:
            for index in (0, len(items) - 2):
                steps += [(item(index), YES), (TELL_TEXT, printed(items.pop(index))), (REMOVE, DONE)]
            steps += [(PRINT, printed(form_of(items))), (LOOK, looked(LIST, len(items), NONE, 0))]
        self.check_steps(*steps)

    def test_add_and_remove_in_the_middle(self):
        self.check([read(b"- a\n- b\n- c"), item(1), REMOVE, APPEND, set_text(b"d"), UP, item(1), REMOVE, APPEND,
                    set_text(b"e"), UP, item(1), TELL_TEXT, REMOVE, item(1), TELL_TEXT, REMOVE, PRINT],
                   [DONE, YES, DONE, DONE, DONE, YES, YES, DONE, DONE,
                    DONE, YES, YES, printed(b"d"), DONE, YES, printed(b"e"), DONE, printed(b"- a\n")])
