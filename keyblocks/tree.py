"""The values that a tree is made of."""

from keyblocks.pieces import TEXT_PIECE, line_pieces
from keyblocks.quotes import in_quotes
from keyblocks.signs import EMPTY_LIST_SIGNS, EMPTY_MAP_SIGNS

TEXT = 0
MAP = 1
LIST = 2

# The greatest depth of a map or list that has something in it.
MOST_DEPTH = 31


class Value:
    """A text, a map or a list; new, it is the empty text.

    The written forms are kept, as a tree may be printed far more often than its texts change.
    """

    def __init__(self, key):
        self.key = key
        self.written_key = None if key is None else written_form(key)
        # Turns rise from the first member of a map or list to the last, so that one is found fast among many.
        self.turn = 0
        self.become_text(())

    def become_text(self, content):
        """Be that text. The key stays."""
        self.kind = TEXT
        self.content = content
        self.written = written_form(content)
        self.members = []
        self.by_key = {}

    def become_empty(self, kind):
        """Be the empty map or list. The key stays."""
        self.kind = kind
        self.content = ()
        self.written = empty_signs(kind)
        self.members = []
        self.by_key = {}

    def add_member(self, member):
        """Add the member behind the others; in a map under its key, which is a new one there."""
        if self.members:
            member.turn = self.members[-1].turn + 1
        self.members.append(member)
        if member.key is not None:
            self.by_key[member.key] = member

    def drop_member(self, member):
        """Take the member out; the others keep their order."""
        self.members.pop(self.place_of(member))
        if member.key is not None:
            self.by_key.pop(member.key)

    def place_of(self, member):
        """Which one of the members it is, from 0."""
        first = 0
        last = len(self.members) - 1
        while first < last:
            middle = (first + last) // 2
            if self.members[middle].turn < member.turn:
                first = middle + 1
            else:
                last = middle
        return first

    def size(self):
        """How many bytes, entries or items it has."""
        return len(self.content) if self.kind == TEXT else len(self.members)


def new_map():
    """An empty map that stands under no key."""
    value = Value(None)
    value.become_empty(MAP)
    return value


def empty_signs(kind):
    """The bytes that an empty map or list is written with."""
    return EMPTY_MAP_SIGNS if kind == MAP else EMPTY_LIST_SIGNS


def written_form(content):
    """The bytes as a key or text is printed: plain if they'd be read as that plain text, else quoted."""
    pieces = line_pieces(content)
    # A quoted text is shorter than what is written for it, so that only a plain one can be equal.
    if len(pieces) == 1 and pieces[0].role == TEXT_PIECE and pieces[0].content == content:
        return content
    return in_quotes(content)
