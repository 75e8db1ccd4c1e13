"""Made-up lists of calls, compared with a plain model: it copies its tree for each edit and prints it to measure."""

import random

from tests.helper import (
    APPEND, DONE, LAST_NUMBER, LIST, LOOK, MAP, MOST_PRINTED, NO, NONE, NOT_OF_THIS, PRINT, REMOVE, TELL_KEY, TELL_TEXT,
    TEXT, TOO_DEEP, TOO_LARGE, TOO_MUCH, TOP, UP, YES,
    Checks, changed_at, enter, form_of, item, kind_of, large, looked, make, nested, printed, put, read, set_text,
    some_bytes, some_tree)


class Model:
    """A tree of bytes, dicts and lists, and the keys and indexes that lead to the cursor. Each step gives a pair."""

    def __init__(self):
        self.tree = {}
        self.path = []

    def value(self):
        value = self.tree
        for key in self.path:
            value = value[key]
        return value

    def key(self):
        return self.path[-1] if self.path and isinstance(self.path[-1], bytes) else None

    def read(self, tree):
        form = form_of(tree)
        if len(form) > MOST_PRINTED:
            return read(form), TOO_LARGE
        self.tree, self.path = tree, []
        return read(form), DONE

    def print(self):
        return PRINT, printed(form_of(self.tree))

    def top(self):
        self.path = []
        return TOP, DONE

    def up(self):
        answer = YES if self.path else NO
        self.path = self.path[:-1]
        return UP, answer

    def enter(self, key):
        if kind_of(self.value()) != MAP or key not in self.value():
            return enter(key), NO
        self.path = self.path + [key]
        return enter(key), YES

    def item(self, index):
        value = self.value()
        if kind_of(value) == TEXT or index >= len(value):
            return item(index), NO
        self.path = self.path + [list(value)[index] if kind_of(value) == MAP else index]
        return item(index), YES

    def look(self):
        value, key = self.value(), self.key()
        return LOOK, looked(kind_of(value), len(value), NONE if key is None else len(key), len(self.path))

    def tell_key(self):
        return TELL_KEY, NOT_OF_THIS if self.key() is None else printed(self.key())

    def tell_text(self):
        return TELL_TEXT, printed(self.value()) if kind_of(self.value()) == TEXT else NOT_OF_THIS

    def change(self, value, step):
        """Let the value under the cursor be that one, and then the cursor go further by the step."""
        tree = changed_at(self.tree, self.path, value)
        if len(form_of(tree)) > MOST_PRINTED:
            return TOO_MUCH
        self.tree, self.path = tree, self.path + step
        return DONE

    def set_text(self, text):
        return set_text(text), self.change(text, [])

    def make(self, kind):
        if kind not in (MAP, LIST):
            return make(kind), NOT_OF_THIS
        return make(kind), self.change({} if kind == MAP else [], [])

    def put(self, key):
        value = self.value()
        if kind_of(value) != MAP:
            return put(key), NOT_OF_THIS
        if key in value:
            return put(key), self.change(value, [key])
        return put(key), TOO_DEEP if len(self.path) == 32 else self.change({**value, key: b""}, [key])

    def append(self):
        value = self.value()
        if kind_of(value) != LIST:
            return APPEND, NOT_OF_THIS
        return APPEND, TOO_DEEP if len(self.path) == 32 else self.change(value + [b""], [len(value)])

    def remove(self):
        if not self.path:
            return REMOVE, NOT_OF_THIS
        last = self.path.pop()
        left = self.value().copy()
        left.pop(last)
        return REMOVE, self.change(left, [])


def some_key(model, source):
    """Mostly a key that's there, if there is one."""
    value = model.value()
    if kind_of(value) == MAP and value and source.random() < 0.6:
        return source.choice(list(value))
    return some_bytes(source)


def some_step(model, source):
    """A call, and what the model answers; mostly one that can be of the value."""
    fitting = {TEXT: ["make", "tell_text", "set_text"], MAP: ["put", "enter", "item"], LIST: ["append", "item"]}
    others = ["print", "look", "tell_key", "up", "up", "top", "set_text", "make", "remove"]
    names = fitting[kind_of(model.value())] if source.random() < 0.7 else others + sum(fitting.values(), [])
    name = source.choice(names)
    if name in ("put", "enter"):
        return getattr(model, name)(some_key(model, source))
    if name == "item":
        return model.item(source.choice((0, 0, 1, 2, len(model.value()), LAST_NUMBER)))
    if name == "set_text":
        return model.set_text(some_bytes(source))
    if name == "make":
        return model.make(source.choice((1, 1, 1, 2, 2, 2, 0, 3, LAST_NUMBER)))
    return getattr(model, name)()


class TestModel(Checks):
    def check_some(self, model, steps, count, source):
        """As many steps more, and what is then printed and looked at; the refusals that were among them."""
        for number in range(count):
            steps.append(some_step(model, source))
        self.check_steps(*steps, model.look(), model.print())
        return [answer for call, answer in steps if answer[0] == 1]

    def test_from_the_empty_map(self):
        source = random.Random(7)
        seen = []
        for count in range(200):
            seen += self.check_some(Model(), [], source.randrange(1, 200), source)
        self.assertIn(NOT_OF_THIS, seen)

    def test_behind_a_read(self):
        source = random.Random(8)
        for count in range(200):
            model = Model()
            self.check_some(model, [model.read(some_tree(source, 0))], source.randrange(1, 100), source)

    def test_at_the_greatest_depth(self):
        source = random.Random(9)
        seen = []
        for count in range(100):
            model, tree = Model(), some_tree(source, 5)
            for depth in range(30):
                tree = [tree] if source.random() < 0.5 else {some_bytes(source): tree}
            steps = [model.read(tree)] + [model.item(0) for depth in range(source.randrange(28, 33))]
            seen += self.check_some(model, steps, 60, source)
        self.assertIn(TOO_DEEP, seen)

    def test_near_the_greatest_size(self):
        source = random.Random(10)
        seen = []
        for count in range(12):
            room = source.randrange(20)
            text, form = large(MOST_PRINTED - room, b"-\n  - a\n  - b\n-\n  c: d\n  e: {}\n- f\n")
            filled = [nested(31, b"")] * form.count(b'""') + [b"x" * form.count(b"x")]
            model = Model()
            model.tree = filled + [[b"a", b"b"], {b"c": b"d", b"e": {}}, b"f"]
            self.assertEqual(form_of(model.tree), form)
            steps = [(read(text), DONE), model.item(len(filled) + source.randrange(3))]
            seen += self.check_some(model, steps, 25, source)
        self.assertIn(TOO_MUCH, seen)
