"""The printed form of a tree."""

from keyblocks.signs import BLANK, COLON, DASH, LINE_FEED


def printed_form(root):
    """The bytes of the whole tree, a line feed behind each line."""
    printed = []
    if root.members:
        print_members(root, 0, printed)
    else:
        printed.extend(root.written)
        printed.append(LINE_FEED)
    return printed


def print_members(value, depth, printed):
    """Add the lines of the value's entries or items; depth is how many maps and lists are around the value.

    It calls itself for what lies within, at most as often as maps and lists may be nested.
    """
    indent = [BLANK] * (2 * depth)
    for member in value.members:
        printed.extend(indent)
        print_head(member, printed)
        if member.members:
            printed.append(LINE_FEED)
            print_members(member, depth + 1, printed)
        else:
            printed.append(BLANK)
            printed.extend(member.written)
            printed.append(LINE_FEED)


def print_head(member, printed):
    """Add the key and its colon, or the dash."""
    if member.written_key is None:
        printed.append(DASH)
    else:
        printed.extend(member.written_key)
        printed.append(COLON)
