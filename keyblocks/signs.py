"""The bytes that mean something in the language."""

LINE_FEED = 10
BLANK = 32
QUOTE = 34
HASH = 35
DASH = 45
COLON = 58
BACKSLASH = 92
SMALL_X = 120
DELETE = 127

EMPTY_MAP_SIGNS = (123, 125)
EMPTY_LIST_SIGNS = (91, 93)


def is_control(byte):
    """Whether the byte may stand in no line."""
    return byte < BLANK or byte == DELETE
