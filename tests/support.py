"""What the tests share: calls put into a list, answers taken out of one, and a plain reading of the document."""

from functools import lru_cache
from itertools import combinations

from modedpieces.house import answers

TOP = 2 ** 64 - 1


# Calls.

def begin(modes):
    return [1, modes]


def rule(mode, kind, does, to, pattern):
    return [2, mode, kind, does, to, len(pattern)] + pattern


def text(row):
    return [3, len(row)] + list(row)


def pieces():
    return [4]


def edit(i, n, row):
    return [5, i, n, len(row)] + list(row)


def at(i):
    return [6, i]


def words():
    return [7]


def longest(number, row):
    return [8, number, len(row)] + list(row)


def tight(separator):
    return [9, len(separator)] + list(separator)


def ask(*calls):
    """Answer these calls as one list; give back one list of numbers a call."""
    told = answers([number for call in calls for number in call])
    split = []
    place = 0
    while place < len(told):
        size = told[place]
        assert size >= 1 and place + 1 + size <= len(told)
        split.append(told[place + 1:place + 1 + size])
        place += 1 + size
    assert len(split) == len(calls)
    return split


def last(*calls):
    return ask(*calls)[-1]


def in_fives(answer):
    """Take the answer of pieces apart: a tuple of five numbers each."""
    assert len(answer) == 1 + 5 * answer[0]
    return [tuple(answer[place:place + 5]) for place in range(1, len(answer), 5)]


def cut(*calls):
    """The pieces that are told behind these calls."""
    return in_fives(last(*calls, pieces()))


# Patterns, as lists of numbers.

def codes(word):
    return list(word.encode("latin-1"))


def none():
    return [0]


def one(word):
    return [1, len(word)] + codes(word)


def none_of(word):
    return [2, len(word)] + codes(word)


def seq(*patterns):
    return fold(3, patterns)


def either(*patterns):
    return fold(4, patterns)


def star(pattern):
    return [5] + pattern


def plus(pattern):
    return [6] + pattern


def maybe(pattern):
    return [7] + pattern


def span(low, high):
    return [8, low, high]


def word(letters):
    return seq(*[one(letter) for letter in letters])


def fold(sort, patterns):
    """A balanced nest of two at a time, so that many stay within the levels."""
    if len(patterns) == 1:
        return list(patterns[0])
    half = len(patterns) // 2
    return [sort] + fold(sort, patterns[:half]) + fold(sort, patterns[half:])


ANY = [2, 0]
NOTHING = [2, 256] + list(range(256))


# The document once more, by another way: what is left of a pattern behind a byte.

VOID = ("void",)
EMPTY = ("empty",)


def make_seq(left, right):
    if left == VOID or right == VOID:
        return VOID
    if left == EMPTY:
        return right
    if right == EMPTY:
        return left
    return ("seq", left, right)


def make_alt(left, right):
    members = set()
    for side in (left, right):
        if side[0] == "alt":
            members |= side[1]
        elif side != VOID:
            members.add(side)
    if not members:
        return VOID
    if len(members) == 1:
        return members.pop()
    return ("alt", frozenset(members))


def make_star(inner):
    if inner in (VOID, EMPTY):
        return EMPTY
    return inner if inner[0] == "star" else ("star", inner)


def make_class(members):
    return ("class", frozenset(members)) if members else VOID


def tree_of(pattern):
    tree, rest = read_tree(pattern)
    assert not rest
    return tree


def read_tree(pattern):
    sort, rest = pattern[0], pattern[1:]
    if sort == 0:
        return EMPTY, rest
    if sort in (1, 2):
        told = set(rest[1:1 + rest[0]])
        members = told if sort == 1 else set(range(256)) - told
        return make_class(members), rest[1 + rest[0]:]
    if sort == 8:
        return make_class(set(range(rest[0], rest[1] + 1))), rest[2:]
    left, rest = read_tree(rest)
    if sort == 5:
        return make_star(left), rest
    if sort == 6:
        return make_seq(left, make_star(left)), rest
    if sort == 7:
        return make_alt(left, EMPTY), rest
    right, rest = read_tree(rest)
    return (make_seq if sort == 3 else make_alt)(left, right), rest


@lru_cache(maxsize=None)
def has_empty(tree):
    if tree[0] == "seq":
        return has_empty(tree[1]) and has_empty(tree[2])
    if tree[0] == "alt":
        return any(has_empty(member) for member in tree[1])
    return tree[0] in ("empty", "star")


@lru_cache(maxsize=None)
def left_behind(tree, byte):
    """What may come behind this byte, where the pattern's row begins with it."""
    if tree[0] == "class":
        return EMPTY if byte in tree[1] else VOID
    if tree[0] == "seq":
        tail = left_behind(tree[2], byte) if has_empty(tree[1]) else VOID
        return make_alt(make_seq(left_behind(tree[1], byte), tree[2]), tail)
    if tree[0] == "alt":
        rest = VOID
        for member in tree[1]:
            rest = make_alt(rest, left_behind(member, byte))
        return rest
    if tree[0] == "star":
        return make_seq(left_behind(tree[1], byte), tree)
    return VOID


def plain_scan(tree, row, place):
    """How many bytes the longest row of one byte or more has (or 0), and how many are looked at."""
    longest = 0
    looked = 0
    # No part of a tree is void, so that a row of a byte or more is in all trees but these two.
    while tree not in (VOID, EMPTY):
        looked += 1
        if place + looked > len(row):
            break
        tree = left_behind(tree, row[place + looked - 1])
        if has_empty(tree):
            longest = looked
    return longest, looked


def plain_cut(rules, row):
    """Cut a text by rules, tuples as they are told: a list of kind, place, length, modes, how far one looked."""
    found = []
    modes = (0,)
    place = 0
    furthest = 0
    while place < len(row):
        held = [told for told in rules if told[0] == modes[-1]]
        scans = [plain_scan(tree_of(told[4]), row, place) for told in held]
        furthest = max([furthest, place + 1] + [place + looked for longest, looked in scans])
        length = max([0] + [longest for longest, looked in scans])
        kind, does, to = 65, 0, 0
        if length:
            kind, does, to = [told[1:4] for told, scan in zip(held, scans) if scan[0] == length][0]
        if (does == 1 and len(modes) == 16) or (does == 2 and len(modes) == 1):
            kind, does = 65, 0
        length = length or 1
        found.append((kind, place, length, modes, furthest))
        modes = {0: modes, 1: modes + (to,), 2: modes[:-1], 3: modes[:-1] + (to,)}[does]
        place += length
    return found


def plain_edit(rules, old_row, new_row):
    """The four numbers that edit answers."""
    old = plain_cut(rules, old_row)
    new = plain_cut(rules, new_row)
    ahead = 0
    for left, right in zip(old, new):
        if left[:4] != right[:4]:
            break
        ahead += 1
    behind = 0
    for left, right in zip(reversed(old[ahead:]), reversed(new[ahead:])):
        if (left[0], len(old_row) - left[1]) + left[2:4] != (right[0], len(new_row) - right[1]) + right[2:4]:
            break
        behind += 1
    return [len(new), len([piece for piece in new if piece[0] == 65]), ahead, behind]


def five(piece):
    """A plain piece as pieces tells it."""
    return piece[0], piece[1], piece[2], piece[3][-1], piece[4]


def plain_words(rules, row):
    """The words of a row: kind, mode, bytes."""
    found = plain_cut(rules, row)
    return [(kind, modes[-1], row[place:place + length]) for kind, place, length, modes, far in found if kind != 64]


def put_together(found, places, separator):
    """The bytes of these words, with the separator ahead of those at the places."""
    return [byte for number, word in enumerate(found) for byte in (separator if number in places else []) + word[2]]


def plain_tight(rules, row, separator):
    """What tight answers, by trying one set of places after another."""
    found = plain_words(rules, row)
    if any(piece[0] == 65 for piece in plain_cut(rules, row)):
        return [-3]
    if len(found) > 9:
        return [-5]
    for many in range(max(len(found), 1)):
        for places in combinations(range(1, len(found)), many):
            written = put_together(found, places, separator)
            if plain_words(rules, written) == found:
                return [many] + written
    return [-2]


def pattern_end(row, place, level):
    """Where the pattern at this place ends, or None if there's none."""
    if level > 40 or place >= len(row) or row[place] > 8:
        return None
    sort, rest = row[place], row[place + 1:]
    if sort in (1, 2):
        if not rest or len(rest) - 1 < rest[0] or (sort, rest[0]) == (1, 0):
            return None
        if max(rest[1:1 + rest[0]], default=0) > 255:
            return None
        return place + 2 + rest[0]
    if sort == 8:
        return place + 3 if len(rest) >= 2 and rest[0] <= rest[1] <= 255 else None
    place += 1
    for _ in range((0, 0, 0, 2, 2, 1, 1, 1)[sort]):
        place = pattern_end(row, place, level + 1)
        if place is None:
            return None
    return place


def is_text(row):
    return len(row) <= 200 and all(byte <= 255 for byte in row)


class PlainHouse:
    """The calls once more, each told as its list of numbers is."""

    def __init__(self):
        self.modes = 1
        self.rules = []
        self.row = []

    def answer(self, call):
        names = (None, "begin", "rule", "text", "pieces", "edit", "at", "words", "longest", "tight")
        return getattr(self, names[call[0]])(*call[1:])

    def begin(self, modes):
        if not 1 <= modes <= 8:
            return [-1]
        self.modes, self.rules, self.row = modes, [], []
        return [0]

    def rule(self, mode, kind, does, to, size, *pattern):
        if mode >= self.modes or to >= self.modes or kind > 64 or does > 3:
            return [-1]
        if pattern_end(list(pattern), 0, 0) != size:
            return [-3]
        if len(self.rules) == 24:
            return [-5]
        self.rules.append((mode, kind, does, to, list(pattern)))
        self.row = []
        return [len(self.rules) - 1]

    def text(self, size, *row):
        if not is_text(row):
            return [-1]
        self.row = list(row)
        found = plain_cut(self.rules, self.row)
        return [len(found), len([piece for piece in found if piece[0] == 65])]

    def pieces(self):
        found = plain_cut(self.rules, self.row)
        return [len(found)] + [number for piece in found for number in five(piece)]

    def edit(self, i, n, size, *row):
        new_row = self.row[:i] + list(row) + self.row[i + n:]
        if i + n > len(self.row) or not is_text(new_row):
            return [-1]
        told = plain_edit(self.rules, self.row, new_row)
        self.row = new_row
        return told

    def at(self, i):
        for ahead, piece in enumerate(plain_cut(self.rules, self.row)):
            if piece[1] <= i < piece[1] + piece[2]:
                return [ahead, *five(piece), *piece[3][::-1]]
        return [-2]

    def words(self):
        kinds = [word[0] for word in plain_words(self.rules, self.row)]
        return [len(kinds)] + kinds

    def longest(self, number, size, *row):
        if not is_text(row):
            return [-1]
        if number >= len(self.rules):
            return [-2]
        tree = tree_of(self.rules[number][4])
        size = plain_scan(tree, row, 0)[0]
        return [size] if size or has_empty(tree) else [-3]

    def tight(self, size, *separator):
        if not is_text(separator):
            return [-1]
        return plain_tight(self.rules, self.row, list(separator))


class Chance:
    """Numbers that look like chance, and are the same at every run."""

    def __init__(self, seed):
        self.state = seed * 2654435761 % 2 ** 64 + 1

    def below(self, bound):
        self.state = (self.state * 6364136223846793005 + 1442695040888963407) % 2 ** 64
        return (self.state >> 33) % bound

    def pick(self, choices):
        return choices[self.below(len(choices))]

    def row(self, longest, letters):
        return [self.pick(letters) for _ in range(self.below(longest + 1))]

    def pattern(self, depth, letters):
        sort = self.below(9) if depth else self.pick([0, 1, 1, 1, 2, 8, 8])
        if sort == 0:
            return [0]
        if sort == 1:
            members = [self.pick(letters) for _ in range(1 + self.below(3))]
            return [1, len(members)] + members
        if sort == 2:
            if self.below(8) == 0:
                return list(NOTHING)
            members = self.row(4, letters)
            return [2, len(members)] + members
        if sort == 8:
            low, high = sorted([self.pick(letters), self.pick(letters)])
            return [8, low, high]
        inner = self.pattern(depth - 1, letters)
        return [sort] + inner + (self.pattern(depth - 1, letters) if sort in (3, 4) else [])

    def rule(self, modes, letters):
        does = self.pick([0, 0, 0, 1, 1, 2, 3])
        kind = self.pick([0, 1, 2, 63, 64])
        return self.below(modes), kind, does, self.below(modes), self.pattern(self.below(5), letters)

    def reader(self, modes):
        """Rules by which blanks are nothing, most pieces are words, and letters together are often another word."""
        told = []
        for _ in range(1 + self.below(6)):
            letters = [self.pick(codes("ab"))] + self.row(3, codes("aab "))
            pattern = self.pick([word(bytes(letters).decode()), plus([8, 97, 98]), plus([1, 1, letters[0]]),
                                 [3, 1, 1, letters[0], 3, 5] + self.pick([ANY, none_of(" ")]) + one("b")])
            told.append((self.below(modes), self.pick([1, 2, 2, 64]), self.pick([0, 0, 0, 0, 1, 2, 3]),
                         self.below(modes), pattern))
        for mode in range(modes):
            told += [(mode, 64, 0, 0, self.pick([one(" "), plus(one(" "))])), (mode, 3, 0, 0, ANY)]
        return told
