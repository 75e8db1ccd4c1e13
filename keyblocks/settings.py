"""A tree and a cursor on one of its values."""

from keyblocks.printer import growth_by_member, lone_size, printed_form, printed_size, value_size
from keyblocks.reader import tree_of
from keyblocks.refusals import NotOfThisValue, TooDeep, TooLarge, TooMuch
from keyblocks.tree import LIST, MAP, MOST_DEPTH, TEXT, Value, empty_signs, new_map, written_form

MOST_HANDED_OVER = 65536
MOST_PRINTED = 262144

NO_KEY_LENGTH = -1


class Settings:
    """The object that the calls come on.

    Its path is the values from the top to the one under the cursor. How many bytes the printed form has is kept,
    as each edit must know it and few change much of it.
    """

    def __init__(self):
        self.begin()

    def begin(self):
        """Start anew with the empty map."""
        self.path = [new_map()]
        self.form_size = printed_size(self.path[0])
        return 0

    def read(self, text):
        """Take the tree that the text says. Raises ReadFault or TooLarge, and is then as before."""
        if len(text) > MOST_HANDED_OVER:
            raise TooLarge()
        root = tree_of(text)
        form_size = printed_size(root)
        if form_size > MOST_PRINTED:
            raise TooLarge()
        self.path = [root]
        self.form_size = form_size
        return 0

    def printed(self):
        """The printed form of the whole tree."""
        return printed_form(self.path[0])

    def top(self):
        """Go to the top."""
        self.path = [self.path[0]]
        return 0

    def up(self):
        """Go to the value around: 1, or 0 at the top."""
        if len(self.path) == 1:
            return 0
        self.path.pop()
        return 1

    def enter(self, key):
        """Go into the entry of that key: 1, or 0 if there is none."""
        member = self.path[-1].by_key.get(key)
        if member is None:
            return 0
        self.path.append(member)
        return 1

    def item(self, index):
        """Go into the item or entry at that index: 1, or 0 if there is none."""
        members = self.path[-1].members
        if index >= len(members):
            return 0
        self.path.append(members[index])
        return 1

    def depth(self):
        """How many maps and lists the value under the cursor lies in."""
        return len(self.path) - 1

    def look(self):
        """Kind, size, how long the key is, depth."""
        value = self.path[-1]
        key_length = NO_KEY_LENGTH if value.key is None else len(value.key)
        return [value.kind, value.size(), key_length, self.depth()]

    def key_here(self):
        """The key that the value stands under. Raises NotOfThisValue if there is none."""
        value = self.path[-1]
        if value.key is None:
            raise NotOfThisValue()
        return list(value.key)

    def text_here(self):
        """The bytes of the text. Raises NotOfThisValue if it's a map or list."""
        value = self.path[-1]
        if value.kind != TEXT:
            raise NotOfThisValue()
        return list(value.content)

    def set_text(self, text):
        """Let the value be that text. Raises TooMuch, and is then as before, like every edit that raises."""
        refuse_long(text)
        self.make_room_here(written_form(text))
        self.path[-1].become_text(text)
        return 0

    def make(self, kind):
        """Let the value be an empty map or list. Raises NotOfThisValue for another kind, TooMuch."""
        if kind != MAP and kind != LIST:
            raise NotOfThisValue()
        self.make_room_here(empty_signs(kind))
        self.path[-1].become_empty(kind)
        return 0

    def put(self, key):
        """Go into the map's entry of that key, which is added if there is none. Raises what add_here does too."""
        if self.path[-1].kind != MAP:
            raise NotOfThisValue()
        refuse_long(key)
        if self.enter(key) == 0:
            self.add_here(Value(key))
        return 0

    def append_item(self):
        """Add the empty text to the list and go there. Raises what add_here does too."""
        if self.path[-1].kind != LIST:
            raise NotOfThisValue()
        self.add_here(Value(None))
        return 0

    def remove_here(self):
        """Take the value out of the map or list around, and go there. Raises NotOfThisValue at the top."""
        if len(self.path) == 1:
            raise NotOfThisValue()
        member = self.path.pop()
        around = self.path[-1]
        around.drop_member(member)
        self.form_size -= growth_by_member(around, self.depth(), member)
        return 0

    def add_here(self, member):
        """Add the member to the map or list under the cursor, and go there. Raises TooDeep or TooMuch."""
        value = self.path[-1]
        if self.depth() > MOST_DEPTH:
            raise TooDeep()
        self.grow(growth_by_member(value, self.depth(), member))
        value.add_member(member)
        self.path.append(member)

    def make_room_here(self, written):
        """Count what is so written in the place of the value under the cursor. Raises TooMuch."""
        self.grow(lone_size(written) - value_size(self.path[-1], self.depth()))

    def grow(self, growth):
        """Count so many bytes more for the printed form. Raises TooMuch where it would have too many."""
        if self.form_size + growth > MOST_PRINTED:
            raise TooMuch()
        self.form_size += growth


def refuse_long(handed_over):
    """Raise TooMuch if the key or text has more bytes than one may have that is handed over."""
    if len(handed_over) > MOST_HANDED_OVER:
        raise TooMuch()
