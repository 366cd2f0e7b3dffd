"""Words written one behind another, with as few separators as do."""

from modedpieces.cutting import FIRST_MODE
from modedpieces.cutting import NOTHING
from modedpieces.cutting import cut_one
from modedpieces.cutting import word_of


class Way:
    """A way to write the first words, of which it's not known yet that it fails.

    places are the words that have a separator ahead, by their numbers. tail are the bytes that aren't cut yet, for
    what's written behind them may change how; modes are those open there, done is how many words are ahead of it.
    """

    def __init__(self, places, tail, modes, done):
        self.places = places
        self.tail = tail
        self.modes = modes
        self.done = done

    def outlook(self):
        """Give all that what comes of this way depends on."""
        return self.done, self.modes, tuple(self.tail)

    def follow(self, rules, words):
        """Cut what's certain of the tail; tell whether all words in it are those wanted."""
        return self.cut_on(rules, [rule.matcher.fitting(self.tail) for rule in rules], words, False)

    def finish(self, rules, words):
        """Cut all of the tail, for nothing comes behind it; tell whether the words are those wanted, and all."""
        fits = [rule.matcher.promising(self.tail) for rule in rules]
        return self.cut_on(rules, fits, words, True) and self.done == len(words)

    def cut_on(self, rules, fits, words, whole):
        """Cut the tail, if it isn't whole just what's certain of it; tell whether all words in it are those wanted."""
        at = 0
        while at < len(self.tail):
            piece, following = cut_one(rules, fits, self.modes, at)
            if piece.far > len(self.tail) and not whole:
                break
            if piece.kind != NOTHING:
                if words[self.done:self.done + 1] != [word_of(piece, self.tail)]:
                    return False
                self.done += 1
            self.modes = following
            at += piece.length
        self.tail = self.tail[at:]
        return True


def best_places(rules, words, separator):
    """Give the places of the separators with which these words are written tight, or None if there's no way."""
    ways = [Way((), [], (FIRST_MODE,), 0)]
    for place in range(len(words)):
        ways = ways_with_one_more(rules, words, separator, ways, place)
    for way in ways:
        if way.finish(rules, words):
            return way.places
    return None


def ways_with_one_more(rules, words, separator, ways, place):
    """Give the ways to write the word of this number too, the best ones first."""
    row = words[place][2]
    longer = [Way(way.places, way.tail + row, way.modes, way.done) for way in ways]
    if place > 0:
        longer.extend([Way(way.places + (place,), way.tail + separator + row, way.modes, way.done) for way in ways])
    left = {}
    for way in sorted(longer, key=rank):
        if way.follow(rules, words):
            # Of ways with the same outlook none but the best can be the best in the end.
            left.setdefault(way.outlook(), way)
    return list(left.values())


def rank(way):
    """Give what's less for a better way: fewer places, then those nearer to the beginning."""
    return len(way.places), way.places


def write(words, places, separator):
    """Give the bytes of these words, with a separator ahead of those at the places."""
    row = []
    for place, word in enumerate(words):
        if place in places:
            row.extend(separator)
        row.extend(word[2])
    return row
