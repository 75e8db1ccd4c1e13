"""Edits among other calls: what a refused one leaves, where the cursor may go, and trees made by edits alone."""

import random

from tests.helper import (
    APPEND, BEGIN, DONE, LIST, LOOK, MAP, MOST_PRINTED, NO, NONE, NOT_OF_THIS, PRINT, REMOVE, TELL_KEY, TELL_TEXT, TEXT,
    TOO_DEEP, TOO_LARGE, TOO_MUCH, TOP, UP, WRITTEN, YES,
    Checks, changed_at, enter, fault, form_of, item, kind_of, large, looked, make, printed, put, read, read_tree,
    set_text, some_bytes, some_tree, walk)


class TestRefused(Checks):
    TREE = {b"a": b"x", b"m": {b"k": b"v", b"l": [b"y"]}, b"s": [b"1", {}, b"3"]}

    # Where the cursor stands: the calls that go there, and what is looked at there.
    TOP_MAP = ([], looked(MAP, 3, NONE, 0))
    ENTRY = ([enter(b"m"), enter(b"k")], looked(TEXT, 1, 1, 2))
    MAP_WITHIN = ([enter(b"m")], looked(MAP, 2, 1, 1))
    LIST_WITHIN = ([enter(b"s")], looked(LIST, 3, 1, 1))
    ITEM = ([item(2), item(2)], looked(TEXT, 1, NONE, 2))

    REFUSED = (
        (TOP_MAP, TELL_KEY, NOT_OF_THIS), (TOP_MAP, TELL_TEXT, NOT_OF_THIS), (TOP_MAP, REMOVE, NOT_OF_THIS),
        (TOP_MAP, APPEND, NOT_OF_THIS), (TOP_MAP, make(0), NOT_OF_THIS), (MAP_WITHIN, TELL_TEXT, NOT_OF_THIS),
        (MAP_WITHIN, APPEND, NOT_OF_THIS), (MAP_WITHIN, make(3), NOT_OF_THIS), (LIST_WITHIN, put(b"k"), NOT_OF_THIS),
        (LIST_WITHIN, TELL_TEXT, NOT_OF_THIS), (LIST_WITHIN, make(0), NOT_OF_THIS), (ENTRY, put(b"k"), NOT_OF_THIS),
        (ENTRY, APPEND, NOT_OF_THIS), (ENTRY, make(4), NOT_OF_THIS), (ITEM, TELL_KEY, NOT_OF_THIS),
        (ITEM, put(b""), NOT_OF_THIS), (ITEM, APPEND, NOT_OF_THIS), (ITEM, make(0), NOT_OF_THIS),
        (ENTRY, read(b"a\t"), fault(1, 1, 2)), (ITEM, read(b'"'), fault(2, 1, 1)),
        (ENTRY, read(b"\n:"), fault(3, 2, 1)), (LIST_WITHIN, read(b"a:\na:"), fault(4, 2, 1)),
        (ITEM, read(b"a\nb"), fault(5, 2, 1)), (MAP_WITHIN, read(b"- " * 33), fault(6, 1, 65)),
        (ENTRY, read(large(MOST_PRINTED + 1)[0]), TOO_LARGE))

    def test_it_changes_nothing(self):
        form = form_of(self.TREE)
        around, told = walk(self.TREE, None, 0)
        for (path, look), call, answer in self.REFUSED:
            steps = [(read_tree(self.TREE), DONE)] + [(step, YES) for step in path]
            seen = [(LOOK, look), (PRINT, printed(form))]
            with self.subTest(call=call[:9]):
                self.check_steps(*steps, *seen, (call, answer), *seen, (call, answer), *seen, (TOP, DONE),
                                 *zip(around, told))

    def test_edits_go_on_behind_each(self):
        for (path, look), call, answer in self.REFUSED:
            steps = [(read_tree(self.TREE), DONE)] + [(step, YES) for step in path]
            self.check_steps(*steps, (call, answer), (set_text(b"new"), DONE), (TELL_TEXT, printed(b"new")),
                             (make(MAP), DONE), (put(b"k"), DONE), *[(UP, YES)] * (len(path) + 1), (UP, NO))

    def test_too_deep_and_too_much(self):
        text, form = large(MOST_PRINTED)
        seen = [(LOOK, looked(MAP, 0, NONE, 32)), (PRINT, printed(form.replace(b'""', b"{}", 1)))]
        self.check_steps(
            (read(text), DONE), *[(item(0), YES)] * 32, (make(MAP), DONE), *seen, (put(b"k"), TOO_DEEP), *seen,
            (set_text(b"abc"), TOO_MUCH), *seen, (APPEND, NOT_OF_THIS), *seen, (make(0), NOT_OF_THIS), *seen,
            (UP, YES), (LOOK, looked(LIST, 1, NONE, 31)), (APPEND, TOO_MUCH), (LOOK, looked(LIST, 1, NONE, 31)),
            seen[1], (item(0), YES), *seen)


class TestTheCursor(Checks):
    def test_edits_behind_a_read(self):
        self.check_steps(
            (read(b"a: 1\nb:\n  - 2"), DONE), (put(b"c"), DONE), (set_text(b"3"), DONE), (TOP, DONE),
            (enter(b"b"), YES), (APPEND, DONE), (make(MAP), DONE), (put(b"d"), DONE), (TOP, DONE), (enter(b"a"), YES),
            (REMOVE, DONE), (PRINT, printed(b'b:\n  - 2\n  -\n    d: ""\nc: 3\n')))

    def test_a_read_behind_edits(self):
        self.check_steps(
            (put(b"a"), DONE), (make(LIST), DONE), (APPEND, DONE), (read(b"x: y"), DONE),
            (LOOK, looked(MAP, 1, NONE, 0)), (UP, NO), (enter(b"a"), NO), (PRINT, printed(b"x: y\n")),
            (put(b"a"), DONE), (TELL_TEXT, [1, 0]), (PRINT, printed(b'x: y\na: ""\n')))

    def test_begin_behind_edits(self):
        self.check_steps(
            (put(b"a"), DONE), (make(LIST), DONE), (APPEND, DONE), (set_text(b"t"), DONE), (BEGIN, DONE),
            (LOOK, looked(MAP, 0, NONE, 0)), (UP, NO), (PRINT, printed(b"{}\n")), (enter(b"a"), NO), (item(0), NO),
            (REMOVE, NOT_OF_THIS), (put(b"b"), DONE), (PRINT, printed(b'b: ""\n')))
        self.check_steps(
            (set_text(b"t"), DONE), (BEGIN, DONE), (LOOK, looked(MAP, 0, NONE, 0)), (PRINT, printed(b"{}\n")))

    def test_moves_behind_each_edit(self):
        for edit, below, inside, left in (
                (set_text(b"t"), NO, looked(TEXT, 1, 1, 2), looked(MAP, 2, NONE, 1)),
                (make(MAP), NO, looked(MAP, 0, 1, 2), looked(MAP, 2, NONE, 1)),
                (make(LIST), NO, looked(LIST, 0, 1, 2), looked(MAP, 2, NONE, 1))):
            start = [(read(b"- a:\n    - b\n  c: d"), DONE), (item(0), YES), (enter(b"a"), YES), (edit, DONE)]
            self.check_steps(*start, (item(0), below), (enter(b"a"), NO), (LOOK, inside), (UP, YES), (LOOK, left),
                             (enter(b"a"), YES), (LOOK, inside), (UP, YES), (item(0), YES), (LOOK, inside), (TOP, DONE),
                             (LOOK, looked(LIST, 1, NONE, 0)), (UP, NO))

    def test_moves_behind_put_and_append(self):
        start = [(read(b"- {}\n- a: b"), DONE), (item(1), YES), (put(b"c"), DONE)]
        self.check_steps(*start, (item(0), NO), (enter(b"a"), NO), (UP, YES), (LOOK, looked(MAP, 2, NONE, 1)),
                         (enter(b"c"), YES), (UP, YES), (item(1), YES), (TELL_KEY, printed(b"c")), (TOP, DONE),
                         (LOOK, looked(LIST, 2, NONE, 0)), (APPEND, DONE), (item(0), NO), (enter(b"a"), NO), (UP, YES),
                         (LOOK, looked(LIST, 3, NONE, 0)), (item(2), YES), (UP, YES), (item(3), NO), (item(1), YES),
                         (put(b"a"), DONE), (TELL_TEXT, printed(b"b")), (UP, YES), (UP, YES), (UP, NO))

    def test_moves_behind_remove(self):
        start = [(read(b"k:\n  - a\n  - b: c\n  - d"), DONE), (enter(b"k"), YES), (item(1), YES)]
        self.check_steps(*start, (REMOVE, DONE), (item(2), NO), (item(1), YES), (TELL_TEXT, printed(b"d")), (UP, YES),
                         (LOOK, looked(LIST, 2, 1, 1)), (UP, YES), (LOOK, looked(MAP, 1, NONE, 0)), (UP, NO))
        self.check_steps(*start, (enter(b"b"), YES), (REMOVE, DONE), (enter(b"b"), NO), (item(0), NO),
                         (LOOK, looked(MAP, 0, NONE, 2)), (TOP, DONE), (LOOK, looked(MAP, 1, NONE, 0)), (item(0), YES),
                         (item(1), YES), (LOOK, looked(MAP, 0, NONE, 2)))

    def test_nothing_beside_is_changed(self):
        tree = {b"a": [b"1", {b"b": b"2"}, [b"3"]], b"c": {b"d": b"4", b"e": [b"5"]}, b"f": b"6"}
        for path, changed in (
                ([b"a", 0], b"1"), ([b"a", 1], {}), ([b"a", 1, b"b"], b""), ([b"a", 2], b"x"), ([b"a"], b"x"),
                ([b"c", b"d"], []), ([b"c", b"e", 0], b" "), ([b"c"], []), ([b"f"], b"x"), ([b"f"], {})):
            edit = set_text(changed) if isinstance(changed, bytes) else make(kind_of(changed))
            steps = [(item(key) if isinstance(key, int) else enter(key), YES) for key in path]
            wanted = changed_at(tree, path, changed)
            calls, told = walk(wanted, None, 0)
            self.check_steps((read_tree(tree), DONE), *steps, (edit, DONE), (PRINT, printed(form_of(wanted))),
                             (TOP, DONE), *zip(calls, told))


def built(tree):
    """Edits that make the value under the cursor that tree, part by part; the cursor stays."""
    if isinstance(tree, bytes):
        return [set_text(tree)]
    calls = [make(kind_of(tree))]
    for key in tree if isinstance(tree, dict) else range(len(tree)):
        calls += [put(key) if isinstance(tree, dict) else APPEND, *built(tree[key]), UP]
    return calls


def built_otherwise(tree, source):
    """Like built, but with detours: places first, then what is there in any order; and what is removed again."""
    calls = [set_text(some_bytes(source)), make(source.choice((MAP, LIST)))]
    if isinstance(tree, bytes):
        return calls + [set_text(tree)]
    calls.append(make(kind_of(tree)))
    keys = list(tree) if isinstance(tree, dict) else list(range(len(tree)))
    spare = source.randrange(len(keys) + 1)
    for place, key in enumerate(keys + [None]):
        if place == spare:
            calls += [put(b"not a key of any tree") if isinstance(tree, dict) else APPEND, *built({b"a": [b"b"]}), UP]
        if key is not None:
            calls += [put(key) if isinstance(tree, dict) else APPEND, UP]
    calls += [item(spare), REMOVE]
    for place in source.sample(range(len(keys)), len(keys)):
        calls += [item(place), *built_otherwise(tree[keys[place]], source), UP]
    return calls


def edited(calls):
    """The answers of such calls."""
    return [YES if call == UP or call[0] == 7 else DONE for call in calls]


class TestMadeByEdits(Checks):
    def check_made(self, tree, source):
        form = form_of(tree)
        around, told = walk(tree, None, 0)
        plain = built(tree)
        self.check([*plain, PRINT, *around, TOP, read(form), PRINT, *around],
                   [*edited(plain), printed(form), *told, DONE, DONE, printed(form), *told])
        for count in range(2):
            otherwise = built_otherwise(tree, source)
            self.check([*otherwise, PRINT, *around], [*edited(otherwise), printed(form), *told])
        self.check([read(form), *plain, PRINT], [DONE, *edited(plain), printed(form)])

    def test_listed_at_several_depths(self):
        source = random.Random(5)
        tree = b"x"
        for depth in range(6):
            tree = {content: tree if content == b"" else content for content, form in WRITTEN}
            if depth % 2:
                tree = [tree, b"", {}, [], b"- a"]
            self.check_made(tree, source)

    def test_made_up_trees(self):
        source = random.Random(6)
        for count in range(300):
            self.check_made(some_tree(source, 0), source)

    def test_written_out(self):
        self.check_steps(
            (put(b"name"), DONE), (set_text(b"one"), DONE), (UP, YES), (put(b"a: b"), DONE), (make(LIST), DONE),
            (APPEND, DONE), (set_text(b"- x"), DONE), (UP, YES), (APPEND, DONE), (make(MAP), DONE), (put(b""), DONE),
            (set_text(b"\n"), DONE), (TOP, DONE), (put(b"end"), DONE), (make(LIST), DONE),
            (PRINT, printed(b'name: one\n"a: b":\n  - "- x"\n  -\n    "": "\\n"\nend: []\n')))

    def test_the_order_of_keys_is_the_order_of_putting(self):
        self.check_steps(
            (put(b"a"), DONE), (UP, YES), (put(b"b"), DONE), (UP, YES), (PRINT, printed(b'a: ""\nb: ""\n')),
            (enter(b"a"), YES), (REMOVE, DONE), (put(b"a"), DONE), (PRINT, printed(b'b: ""\na: ""\n')),
            (read(b"b:\na:"), DONE), (PRINT, printed(b'b: ""\na: ""\n')))
