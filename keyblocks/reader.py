"""Reading a text into a tree, by the columns in which its pieces stand."""

from keyblocks.pieces import DASH_PIECE, EMPTY_LIST_PIECE, EMPTY_MAP_PIECE, FAULT_PIECE, KEY_PIECE, TEXT_PIECE
from keyblocks.pieces import line_pieces
from keyblocks.refusals import ReadFault
from keyblocks.signs import LINE_FEED
from keyblocks.tree import LIST, MAP, MOST_DEPTH, Value, new_map

NO_FAULT = 0
SAME_KEY_FAULT = 4
COLUMN_FAULT = 5
DEPTH_FAULT = 6


class Builder:
    """A tree as far as its pieces have come: the maps and lists that more may be added to, outermost first."""

    def __init__(self):
        self.root = Value(None)
        self.nested = []
        self.columns = []
        # The value that came last is the empty text until a piece in a greater column says otherwise.
        self.newest = self.root
        self.awaited = True

    def take(self, piece):
        """Add the piece to the tree; the kind of its fault, or 0."""
        if piece.role == FAULT_PIECE:
            return piece.content
        if self.awaited and piece.column > self.last_column():
            fault = self.fill(piece)
        else:
            fault = self.go_back(piece)
        if fault == NO_FAULT and nesting_kind(piece) is not None:
            fault = self.add_piece(piece)
        return fault

    def last_column(self):
        """The column of the dash or key that came last, 0 before the first."""
        return self.columns[-1] if self.columns else 0

    def fill(self, piece):
        """Let the awaited value be what the piece begins."""
        self.awaited = False
        if piece.role == TEXT_PIECE:
            self.newest.become_text(piece.content)
        elif piece.role == EMPTY_MAP_PIECE:
            self.newest.become_empty(MAP)
        elif piece.role == EMPTY_LIST_PIECE:
            self.newest.become_empty(LIST)
        elif len(self.nested) > MOST_DEPTH:
            return DEPTH_FAULT
        else:
            self.newest.become_empty(nesting_kind(piece))
            self.nested.append(self.newest)
            self.columns.append(piece.column)
        return NO_FAULT

    def go_back(self, piece):
        """Close the maps and lists further in than the piece, which must belong to the last one left."""
        while self.last_column() > piece.column:
            self.columns.pop()
            self.nested.pop()
        if self.last_column() != piece.column or self.nested[-1].kind != nesting_kind(piece):
            return COLUMN_FAULT
        return NO_FAULT

    def add_piece(self, piece):
        """Add an entry or item to the innermost map or list; its value is awaited."""
        around = self.nested[-1]
        key = piece.content if piece.role == KEY_PIECE else None
        if key in around.by_key:
            return SAME_KEY_FAULT
        self.newest = Value(key)
        around.add_member(self.newest)
        self.awaited = True
        return NO_FAULT


def nesting_kind(piece):
    """Which kind the value is that the piece belongs to as an entry or item; None if it can't."""
    if piece.role == DASH_PIECE:
        return LIST
    if piece.role == KEY_PIECE:
        return MAP
    return None


def tree_of(text):
    """The top value of the tree that the text says. Raises ReadFault with the first fault."""
    builder = Builder()
    some = False
    for number, line in enumerate(split_lines(text), start=1):
        for piece in line_pieces(line):
            some = True
            kind = builder.take(piece)
            if kind != NO_FAULT:
                raise ReadFault(kind, number, piece.column)
    return builder.root if some else new_map()


def split_lines(text):
    """The text's lines without their line feeds."""
    lines = []
    start = 0
    for place, byte in enumerate(text):
        if byte == LINE_FEED:
            lines.append(text[start:place])
            start = place + 1
    lines.append(text[start:])
    return lines
