"""What a pattern matches, looked for in a row of bytes."""

from modedpieces.patterns import ANY_TIMES
from modedpieces.patterns import EITHER
from modedpieces.patterns import NO_BYTE
from modedpieces.patterns import ONCE_OR_MORE
from modedpieces.patterns import ONCE_OR_NOT
from modedpieces.patterns import ONE_BEHIND_OTHER
from modedpieces.patterns import ONE_BYTE
from modedpieces.patterns import TOP_BYTE

CHUNK_BITS = 8
CHUNK_MASK = 255


class Matcher:
    """A pattern as steps: each of its single bytes is one. empty tells whether it matches no byte.

    A set of steps is a whole number, bit k of it for step k. The shape of a part is a tuple: whether it matches
    no byte, which steps may be its first, which its last. Parts that match no row at all are left out, so that
    from every step that is reached a match can be finished: as long as a step may come, a longer match exists.
    """

    def __init__(self, parts):
        self.behind = Links()
        self.ahead = Links()
        self.by_byte = [0] * (TOP_BYTE + 1)
        shapes = []
        # From the last part to the first, the parts within one are done ahead of it.
        for sort, members in reversed(parts):
            shapes.append(self.shape_of(sort, members, shapes))
        self.empty = shapes[0][0]
        self.first = shapes[0][1]
        self.last = shapes[0][2]

    def shape_of(self, sort, members, shapes):
        """Give the shape of a part, and take the shapes of those in it away."""
        if sort == NO_BYTE:
            return True, 0, 0
        if sort == ONE_BYTE:
            return self.single(members)
        inner = shapes.pop()
        if sort == ONE_BEHIND_OTHER:
            return self.sequence(inner, shapes.pop())
        if sort == EITHER:
            return either(inner, shapes.pop())
        return self.repeated(sort, inner)

    def single(self, members):
        """Add a step for one of these bytes."""
        if not members:
            return False, 0, 0
        step = self.behind.add_step()
        self.ahead.add_step()
        for byte in members:
            self.by_byte[byte] |= step
        return False, step, step

    def sequence(self, left, right):
        """Put one part behind another."""
        if matches_nothing(left) or matches_nothing(right):
            return False, 0, 0
        self.link(left[2], right[1])
        first = left[1] | right[1] if left[0] else left[1]
        last = left[2] | right[2] if right[0] else right[2]
        return left[0] and right[0], first, last

    def repeated(self, sort, inner):
        """Let a part come several times, or not at all, as the sort says."""
        empty, first, last = inner
        if sort == ANY_TIMES or sort == ONCE_OR_MORE:
            self.link(last, first)
        return empty or sort == ANY_TIMES or sort == ONCE_OR_NOT, first, last

    def link(self, last, first):
        """Let each of the first steps come behind each of the last ones."""
        self.behind.lead(last, first)
        self.ahead.lead(first, last)

    def fitting(self, row):
        """List for each byte of the row which steps match it."""
        return [self.by_byte[byte] for byte in row]

    def promising(self, row):
        """List for each byte of the row which steps match it with a match that's finished within the row."""
        listed = []
        coming = 0
        for byte in reversed(row):
            done = self.by_byte[byte] & (self.last | self.ahead.reached(coming))
            listed.append(done)
            coming = done
        listed.reverse()
        return listed

    def scan(self, fitting, place):
        """Tell of the bytes from place on how many the longest match has and how many must be looked at.

        The bytes are told by the steps that match them, as fitting lists them; if promising does, one looks no
        further than the longest match. The first number is 0 if no row of one byte or more is matched. The text's
        end counts as one byte looked at.
        """
        coming = self.first
        at = place
        longest = 0
        while coming and at < len(fitting):
            done = coming & fitting[at]
            at += 1
            if done & self.last:
                longest = at - place
            coming = self.behind.reached(done)
        if coming:
            return longest, at - place + 1
        return longest, at - place


class Links:
    """Where one comes to from each step."""

    def __init__(self):
        self.table = []
        self.chunks = {}

    def add_step(self):
        """Add a step from which one comes to none yet, and give the set that has it alone."""
        self.table.append(0)
        return 1 << (len(self.table) - 1)

    def lead(self, starts, ends):
        """Let one come from each of these steps to each of those."""
        for step in steps_in(starts):
            self.table[step] |= ends

    def reached(self, steps):
        """Give the set of steps to which one comes from those in a set."""
        ends = 0
        start = 0
        while steps:
            chunk = steps & CHUNK_MASK
            if chunk:
                found = self.chunks.get((start, chunk))
                ends |= self.reached_from_chunk(start, chunk) if found is None else found
            steps >>= CHUNK_BITS
            start += CHUNK_BITS
        return ends

    def reached_from_chunk(self, start, chunk):
        """Give the steps to which one comes from a set's chunk that starts at this step, and keep them.

        Sets are many and their chunks few: large patterns would be slow if gone through step by step.
        """
        ends = 0
        for step in steps_in(chunk):
            ends |= self.table[start + step]
        self.chunks[(start, chunk)] = ends
        return ends


def matches_nothing(shape):
    """Tell whether a part of this shape matches no row at all, not even that of no byte."""
    return not shape[0] and shape[1] == 0


def either(left, right):
    """Give the shape of what one part or the other matches."""
    return left[0] or right[0], left[1] | right[1], left[2] | right[2]


def steps_in(steps):
    """List the steps of a set."""
    listed = []
    while steps:
        top = steps.bit_length() - 1
        listed.append(top)
        steps ^= 1 << top
    return listed
