"""The printed form of a tree, and how many bytes it has."""

from keyblocks.signs import BLANK, COLON, DASH, LINE_FEED


def printed_form(root):
    """The bytes of the whole tree, a line feed behind each line."""
    printed = []
    if root.members:
        print_members(root, 0, printed)
    else:
        printed.extend(root.written)
        printed.append(LINE_FEED)
    return printed


def print_members(value, depth, printed):
    """Add the lines of the value's entries or items; depth is how many maps and lists are around the value.

    It calls itself for what lies within, at most as often as maps and lists may be nested.
    """
    indent = [BLANK] * (2 * depth)
    for member in value.members:
        printed.extend(indent)
        print_head(member, printed)
        if member.members:
            printed.append(LINE_FEED)
            print_members(member, depth + 1, printed)
        else:
            printed.append(BLANK)
            printed.extend(member.written)
            printed.append(LINE_FEED)


def print_head(member, printed):
    """Add the key and its colon, or the dash."""
    if member.written_key is None:
        printed.append(DASH)
    else:
        printed.extend(member.written_key)
        printed.append(COLON)


def printed_size(root):
    """How many bytes the printed form of the whole tree has."""
    # The top has no key or dash, and so neither the blank nor the line feed that stands behind one.
    return value_size(root, 0) - 1


def value_size(value, depth):
    """How many bytes are printed of the value at that depth, from behind its key or dash on.

    Like the printing, it calls itself as often as maps and lists may be nested.
    """
    if not value.members:
        return lone_size(value.written)
    size = 1
    for member in value.members:
        size += member_size(member, depth)
    return size


def lone_size(written):
    """How many bytes a value with nothing in it has, so written, between a blank and the line feed."""
    return 1 + len(written) + 1


def member_size(member, depth):
    """How many bytes an entry or item has, of a map or list at that depth."""
    key_size = 0 if member.written_key is None else len(member.written_key)
    return 2 * depth + key_size + 1 + value_size(member, depth + 1)


def growth_by_member(value, depth, member):
    """How many bytes more there are when the member is added to the map or list at that depth."""
    growth = member_size(member, depth)
    if not value.members:
        # What was written for the empty one goes, and a line feed comes.
        growth += 1 - lone_size(value.written)
    return growth
