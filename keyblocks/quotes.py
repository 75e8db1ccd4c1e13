"""How single bytes stand within quotes."""

from keyblocks.signs import BACKSLASH, QUOTE, SMALL_X, is_control

# The letter behind the backslash, and the byte that the two stand for.
SHORT_ESCAPES = {34: 34, 92: 92, 110: 10, 116: 9}

# The other way round, for the bytes that are written with such a letter.
ESCAPE_LETTERS = {34: 34, 92: 92, 10: 110, 9: 116}

SMALL_HEX_DIGITS = (48, 49, 50, 51, 52, 53, 54, 55, 56, 57, 97, 98, 99, 100, 101, 102)


def escaped_byte(line, place):
    """The byte that the backslash at this place and what is behind it stand for, or None."""
    if place + 1 == len(line):
        return None
    if line[place + 1] == SMALL_X:
        return hexadecimal_byte(line[place + 2:place + 4])
    return SHORT_ESCAPES.get(line[place + 1])


def escape_length(line, place):
    """How many bytes the backslash at this place and what belongs to it are."""
    return 4 if line[place + 1] == SMALL_X else 2


def hexadecimal_byte(signs):
    """The byte that two hexadecimal digits tell; None if it's not two or they are none."""
    digits = [digit_value(sign) for sign in signs]
    if len(digits) < 2 or min(digits) < 0:
        return None
    return digits[0] * 16 + digits[1]


def digit_value(sign):
    """What a hexadecimal digit, small or large, counts; -1 if it is none."""
    if 48 <= sign <= 57:
        return sign - 48
    if 65 <= sign <= 70:
        return sign - 55
    if 97 <= sign <= 102:
        return sign - 87
    return -1


def in_quotes(content):
    """The bytes as they're written within quotes, with the quotes."""
    written = [QUOTE]
    for byte in content:
        if byte in ESCAPE_LETTERS:
            written.append(BACKSLASH)
            written.append(ESCAPE_LETTERS[byte])
        elif is_control(byte):
            written.extend([BACKSLASH, SMALL_X, SMALL_HEX_DIGITS[byte // 16], SMALL_HEX_DIGITS[byte % 16]])
        else:
            written.append(byte)
    written.append(QUOTE)
    return tuple(written)
