"""A text cut into pieces by the rules of its modes."""

NOTHING = 64
ODD = 65
MOST_OPEN = 16
FIRST_MODE = 0

OPENS = 1
LEAVES = 2
GOES_OVER = 3


class Rule:
    """A rule: where it holds, what its pieces are, what it does to the open modes, and what it matches."""

    def __init__(self, mode, kind, does, to, matcher):
        self.mode = mode
        self.kind = kind
        self.does = does
        self.to = to
        self.matcher = matcher


class Piece:
    """A piece of a text. modes are those open ahead of it, the innermost last; far is how far one looked."""

    def __init__(self, kind, place, length, modes, far):
        self.kind = kind
        self.place = place
        self.length = length
        self.modes = modes
        self.far = far

    def told(self):
        """Give the five numbers that are answered of a piece."""
        return [self.kind, self.place, self.length, self.modes[-1], self.far]


def cut(rules, row):
    """Give the list of the pieces that a text's bytes are cut into."""
    fits = [rule.matcher.fitting(row) for rule in rules]
    pieces = []
    modes = (FIRST_MODE,)
    at = 0
    far = 0
    while at < len(row):
        piece, modes = cut_one(rules, fits, modes, at)
        piece.far = max(far, piece.far)
        pieces.append(piece)
        far = piece.far
        at += piece.length
    return pieces


def cut_one(rules, fits, modes, at):
    """Give the piece at this place, with how far one looked for it alone, and the modes behind it.

    The row is told by what each rule's matcher tells of it.
    """
    rule, length, looked = best_match(rules, fits, modes[-1], at)
    following = modes_behind(modes, rule)
    if following is None:
        return Piece(ODD, at, length, modes, at + looked), modes
    return Piece(rule.kind, at, length, modes, at + looked), following


def best_match(rules, fits, mode, at):
    """Give the rule whose piece begins at this place, its length, and how many bytes were looked at.

    The rule is None if none matches; then one byte is a piece.
    """
    best = None
    length = 0
    looked = 1
    for rule, fitting in zip(rules, fits):
        if rule.mode == mode:
            longest, seen = rule.matcher.scan(fitting, at)
            looked = max(looked, seen)
            # Only a longer one: of as long ones the first rule is to be taken.
            if longest > length:
                best = rule
                length = longest
    if best is None:
        length = 1
    return best, length, looked


def modes_behind(modes, rule):
    """Give the modes that are open behind a piece of this rule, or None if the piece is odd."""
    if rule is None:
        return None
    if rule.does == OPENS:
        return None if len(modes) == MOST_OPEN else modes + (rule.to,)
    if rule.does == LEAVES:
        return None if len(modes) == 1 else modes[:-1]
    if rule.does == GOES_OVER:
        return modes[:-1] + (rule.to,)
    return modes


def count_odd(pieces):
    """Count the odd ones among these pieces."""
    return len([piece for piece in pieces if piece.kind == ODD])


def count_same_ahead(old, new):
    """Count the pieces at the beginning that are the same in both lists, one after another."""
    same = 0
    while same < min(len(old), len(new)) and same_piece(old[same], new[same]):
        same += 1
    return same


def count_same_behind(old, new, most):
    """Count the pieces at the end that are the same, from the last on, but the most that are allowed."""
    same = 0
    while same < most and same_piece(old[-1 - same], new[-1 - same]):
        same += 1
    return same


def same_piece(old, new):
    """Tell whether two pieces are the same, if all those ahead of them, or all those behind them, are.

    The places need no look then: with the same lengths they are as far from the beginning, or from the end.
    """
    return old.kind == new.kind and old.length == new.length and old.modes == new.modes


def words_in(pieces, row):
    """List the words among these pieces of a row: of each its kind, its mode and its bytes."""
    return [word_of(piece, row) for piece in pieces if piece.kind != NOTHING]


def word_of(piece, row):
    """Give the word that a piece of this row is: its kind, its mode and its bytes."""
    return piece.kind, piece.modes[-1], row[piece.place:piece.place + piece.length]
