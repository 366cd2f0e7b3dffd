"""Patterns as they are told: lists of whole numbers, read part by part."""

TOP_LEVEL = 40
TOP_BYTE = 255

NO_BYTE = 0
ONE_BYTE = 1
NONE_OF = 2
ONE_BEHIND_OTHER = 3
EITHER = 4
ANY_TIMES = 5
ONCE_OR_MORE = 6
ONCE_OR_NOT = 7
FROM_TO = 8

# How many patterns stand in one of each sort.
INNER = (0, 0, 0, 2, 2, 1, 1, 1, 0)


def read_pattern(row):
    """Give back the parts of the one pattern that row is, or None if row isn't just one.

    Each part is its sort and the bytes that it matches; an outer part stands ahead of those in it. Every sort
    of a single byte is told as ONE_BYTE, and its bytes may be none.
    """
    parts = []
    levels = [0]
    at = 0
    # A loop, for a list may nest as deep as it is long, and is to be refused then.
    while levels:
        level = levels.pop()
        part = read_part(row, at)
        if part is None or level > TOP_LEVEL:
            return None
        sort, members, size = part
        parts.append((sort, members))
        levels.extend([level + 1] * INNER[sort])
        at += size
    if at < len(row):
        return None
    return parts


def read_part(row, at):
    """Give back the sort of the part at this place, its bytes and how many numbers it has itself, or None."""
    if at >= len(row) or row[at] > FROM_TO:
        return None
    sort = row[at]
    if sort == ONE_BYTE or sort == NONE_OF:
        return read_members(row, at)
    if sort == FROM_TO:
        return read_span(row, at)
    return sort, [], 1


def read_members(row, at):
    """Read a part that tells its bytes one by one, or those that aren't its bytes."""
    if at + 1 >= len(row):
        return None
    size = row[at + 1]
    told = row[at + 2:]
    if size > len(told):
        return None
    told = told[:size]
    if size > 0 and max(told) > TOP_BYTE:
        return None
    if row[at] == ONE_BYTE:
        return None if size == 0 else (ONE_BYTE, told, 2 + size)
    others = [byte for byte in range(TOP_BYTE + 1) if byte not in told]
    return ONE_BYTE, others, 2 + size


def read_span(row, at):
    """Read a part that tells its lowest byte and its highest."""
    if at + 2 >= len(row):
        return None
    low = row[at + 1]
    high = row[at + 2]
    if low > high or high > TOP_BYTE:
        return None
    return ONE_BYTE, list(range(low, high + 1)), 3
