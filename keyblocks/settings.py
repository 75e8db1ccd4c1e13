"""A tree and a cursor on one of its values."""

from keyblocks.printer import printed_form
from keyblocks.reader import tree_of
from keyblocks.refusals import TooLarge
from keyblocks.tree import new_map

MOST_READ = 65536
MOST_PRINTED = 262144

NO_KEY_LENGTH = -1


class Settings:
    """The object that the calls come on. Its path is the values from the top to the one under the cursor."""

    def __init__(self):
        self.path = [new_map()]

    def begin(self):
        """Start anew with the empty map."""
        self.path = [new_map()]
        return 0

    def read(self, text):
        """Take the tree that the text says. Raises ReadFault or TooLarge, and is then as before."""
        if len(text) > MOST_READ:
            raise TooLarge()
        root = tree_of(text)
        if len(printed_form(root)) > MOST_PRINTED:
            raise TooLarge()
        self.path = [root]
        return 0

    def printed(self):
        """The printed form of the whole tree."""
        return printed_form(self.path[0])

    def top(self):
        """Go to the top."""
        self.path = [self.path[0]]
        return 0

    def up(self):
        """Go to the value around: 1, or 0 at the top."""
        if len(self.path) == 1:
            return 0
        self.path.pop()
        return 1

    def enter(self, key):
        """Go into the entry of that key: 1, or 0 if there is none."""
        member = self.path[-1].by_key.get(key)
        if member is None:
            return 0
        self.path.append(member)
        return 1

    def item(self, index):
        """Go into the item or entry at that index: 1, or 0 if there is none."""
        members = self.path[-1].members
        if index >= len(members):
            return 0
        self.path.append(members[index])
        return 1

    def look(self):
        """Kind, size, how long the key is, depth."""
        value = self.path[-1]
        key_length = NO_KEY_LENGTH if value.key is None else len(value.key)
        return [value.kind, value.size(), key_length, len(self.path) - 1]
