"""One line in itself: its dashes, its key and its text, each with its column."""

from keyblocks.quotes import escape_length, escaped_byte
from keyblocks.signs import BACKSLASH, BLANK, COLON, DASH, EMPTY_LIST_SIGNS, EMPTY_MAP_SIGNS, HASH, QUOTE, is_control

DASH_PIECE = "dash"
KEY_PIECE = "key"
TEXT_PIECE = "text"
EMPTY_MAP_PIECE = "empty map"
EMPTY_LIST_PIECE = "empty list"
FAULT_PIECE = "fault"

CONTROL_FAULT = 1
QUOTE_FAULT = 2
NO_KEY_FAULT = 3


class Piece:
    """What begins at one place of a line, and at which place the line goes on behind it.

    The content is the bytes of a key or text, and the kind of a fault.
    """

    def __init__(self, role, start, content, end):
        self.role = role
        self.column = start + 1
        self.content = content
        self.end = end


def line_pieces(line):
    """The line's pieces in order. A fault of the line in itself is the last of them."""
    place = first_control(line)
    if place < len(line):
        return [fault_piece(line, place, CONTROL_FAULT)]
    pieces = []
    key_may_stand = True
    place = skip_blanks(line, 0)
    while not nothing_left(line, place):
        piece = piece_at(line, place, key_may_stand)
        pieces.append(piece)
        key_may_stand = piece.role == DASH_PIECE
        place = skip_blanks(line, piece.end)
    return pieces


def piece_at(line, start, key_may_stand):
    """The piece that begins at start. Dashes stand just where a key may stand too."""
    if key_may_stand and line[start] == DASH and blank_or_end(line, start + 1):
        return Piece(DASH_PIECE, start, (), start + 1)
    if line[start] == QUOTE:
        return quoted_piece(line, start, key_may_stand)
    return plain_piece(line, start, key_may_stand)


def fault_piece(line, place, kind):
    """A fault. It ends its line, so that nothing behind it is looked at."""
    return Piece(FAULT_PIECE, place, kind, len(line))


def first_control(line):
    """The place of the first byte that may stand in no line, or the line's end."""
    place = 0
    while place < len(line) and not is_control(line[place]):
        place += 1
    return place


def skip_blanks(line, place):
    """The first place from this one on where no blank stands."""
    while place < len(line) and line[place] == BLANK:
        place += 1
    return place


def nothing_left(line, place):
    """Whether the line ends here or a comment begins.

    It is asked only at the line's beginning and behind blanks, where every # begins a comment.
    """
    return place == len(line) or line[place] == HASH


def blank_or_end(line, place):
    """Whether a blank or the line's end is at this place."""
    return place == len(line) or line[place] == BLANK


def colon_of_key(line, place):
    """Whether a colon stands here that makes what is before it a key."""
    return place < len(line) and line[place] == COLON and blank_or_end(line, place + 1)


def quoted_piece(line, start, key_may_stand):
    """The key or text whose opening quote stands at start, or its fault."""
    content = []
    place = start + 1
    while place < len(line) and line[place] != QUOTE:
        if line[place] == BACKSLASH:
            byte = escaped_byte(line, place)
            if byte is None:
                return fault_piece(line, place, QUOTE_FAULT)
            content.append(byte)
            place += escape_length(line, place)
        else:
            content.append(line[place])
            place += 1
    if place == len(line):
        return fault_piece(line, start, QUOTE_FAULT)
    return closed_piece(line, start, tuple(content), place + 1, key_may_stand)


def closed_piece(line, start, content, behind, key_may_stand):
    """What a quoted content is by what stands behind its closing quote: a key, a text, or a fault."""
    place = skip_blanks(line, behind)
    if key_may_stand and colon_of_key(line, place):
        return Piece(KEY_PIECE, start, content, place + 1)
    if place == len(line):
        return Piece(TEXT_PIECE, start, content, place)
    if line[place] == HASH and place > behind:
        return Piece(TEXT_PIECE, start, content, len(line))
    return fault_piece(line, place, QUOTE_FAULT)


def plain_piece(line, start, key_may_stand):
    """The key or text that begins at start without a quote, or the fault of a key that is nothing."""
    stop = comment_place(line, start)
    if key_may_stand:
        colon = first_key_colon(line, start, stop)
        if colon == start:
            return fault_piece(line, start, NO_KEY_FAULT)
        if colon < stop:
            return Piece(KEY_PIECE, start, without_last_blanks(line, start, colon), colon + 1)
    content = without_last_blanks(line, start, stop)
    return Piece(plain_role(content), start, content, len(line))


def plain_role(content):
    """Which kind of value a plain text stands for."""
    if content == EMPTY_MAP_SIGNS:
        return EMPTY_MAP_PIECE
    if content == EMPTY_LIST_SIGNS:
        return EMPTY_LIST_PIECE
    return TEXT_PIECE


def comment_place(line, start):
    """The place behind start where a comment begins, or the line's end."""
    place = start + 1
    while place < len(line) and not (line[place] == HASH and line[place - 1] == BLANK):
        place += 1
    return place


def first_key_colon(line, start, stop):
    """The place of the first colon before stop that makes a key, or stop."""
    place = start
    while place < stop and not colon_of_key(line, place):
        place += 1
    return place


def without_last_blanks(line, start, stop):
    """The bytes from start up to stop, without the blanks at their end."""
    while stop > start and line[stop - 1] == BLANK:
        stop -= 1
    return tuple(line[start:stop])
