"""What one house keeps between its calls, and what each call does to it."""

from modedpieces.cutting import Rule
from modedpieces.cutting import count_odd
from modedpieces.cutting import count_same_ahead
from modedpieces.cutting import count_same_behind
from modedpieces.cutting import cut
from modedpieces.cutting import words_in
from modedpieces.matching import Matcher
from modedpieces.patterns import TOP_BYTE
from modedpieces.patterns import read_pattern
from modedpieces.writing import best_places
from modedpieces.writing import write

MOST_MODES = 8
MOST_RULES = 24
MOST_BYTES = 200
MOST_WORDS = 9
TOP_KIND = 64
TOP_DOES = 3


class Session:
    """A house: its modes, its rules, its text and the pieces of it.

    Each method that is a call gives back the list of what is answered; a refusal is one number below 0.
    """

    def __init__(self):
        self.modes_there = 1
        self.rules = []
        self.row = []
        self.pieces = []

    def begin(self, modes):
        """Start anew with so many modes."""
        if modes < 1 or modes > MOST_MODES:
            return [-1]
        self.modes_there = modes
        self.rules = []
        self.put_text([])
        return [0]

    def add_rule(self, values, row):
        """Add a rule; values are its mode, kind, what it does and to which mode, row is its pattern."""
        mode, kind, does, to = values
        if max(mode, to) >= self.modes_there or kind > TOP_KIND or does > TOP_DOES:
            return [-1]
        parts = read_pattern(row)
        if parts is None:
            return [-3]
        if len(self.rules) == MOST_RULES:
            return [-5]
        self.rules.append(Rule(mode, kind, does, to, Matcher(parts)))
        self.put_text([])
        return [len(self.rules) - 1]

    def set_text(self, row):
        """Take these bytes as the text."""
        if not may_be_text(row):
            return [-1]
        self.put_text(row)
        return [len(self.pieces), count_odd(self.pieces)]

    def tell_pieces(self):
        """Tell all pieces of the text."""
        answer = [len(self.pieces)]
        for piece in self.pieces:
            answer.extend(piece.told())
        return answer

    def edit(self, at, taken, row):
        """Take so many bytes out from this place on and put those of row there."""
        if at + taken > len(self.row):
            return [-1]
        changed = self.row[:at] + row + self.row[at + taken:]
        if not may_be_text(changed):
            return [-1]
        old = self.pieces
        self.put_text(changed)
        new = self.pieces
        ahead = count_same_ahead(old, new)
        # What is counted at the beginning isn't counted at the end again, in neither text.
        most = min(len(old), len(new)) - ahead
        behind = count_same_behind(old, new, most)
        return [len(new), count_odd(new), ahead, behind]

    def tell_at(self, at):
        """Tell of the piece with the byte of this number, and which modes are open ahead of it."""
        if at >= len(self.row):
            return [-2]
        ahead = 0
        while self.pieces[ahead].place + self.pieces[ahead].length <= at:
            ahead += 1
        piece = self.pieces[ahead]
        return [ahead] + piece.told() + list(reversed(piece.modes))

    def tell_words(self):
        """Tell how many words the text has, and their kinds."""
        kinds = [kind for kind, mode, row in words_in(self.pieces, self.row)]
        return [len(kinds)] + kinds

    def tell_longest(self, number, row):
        """Tell how many of these bytes, from the first on, are the longest row that a rule's pattern matches."""
        if not may_be_text(row):
            return [-1]
        if number >= len(self.rules):
            return [-2]
        matcher = self.rules[number].matcher
        longest, looked = matcher.scan(matcher.fitting(row), 0)
        # A scan tells 0 both for no byte and for no row at all.
        if longest == 0 and not matcher.empty:
            return [-3]
        return [longest]

    def write_tight(self, separator):
        """Tell how the text's words are written with the fewest separators."""
        if not may_be_text(separator):
            return [-1]
        if count_odd(self.pieces) > 0:
            return [-3]
        words = words_in(self.pieces, self.row)
        if len(words) > MOST_WORDS:
            return [-5]
        places = best_places(self.rules, words, separator)
        if places is None:
            return [-2]
        return [len(places)] + write(words, places, separator)

    def put_text(self, row):
        """Keep this text and its pieces."""
        self.row = row
        self.pieces = cut(self.rules, row)


def may_be_text(row):
    """Tell whether these numbers are bytes, and few enough for a text."""
    return len(row) <= MOST_BYTES and max(row, default=0) <= TOP_BYTE
