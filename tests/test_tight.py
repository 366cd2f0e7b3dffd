"""How tight writes the words of a text."""

import unittest
from itertools import combinations

from support import ANY, TOP, Chance, ask, begin, codes, either, fold, last, longest, none_of, one, pieces, plus, rule
from support import put_together, seq, span, star, text, tight, word, words

NAMES = [rule(0, 1, 0, 0, plus(span(97, 122))), rule(0, 2, 0, 0, plus(span(48, 57))),
         rule(0, 64, 0, 0, plus(one(" "))), rule(0, 3, 0, 0, one("=+")), rule(0, 4, 0, 0, word("=="))]
EVERY_LETTER = [rule(0, 1, 0, 0, span(97, 122)), rule(0, 64, 0, 0, one(" "))]


def written(rules, row, separator=" "):
    """What tight answers of a text: how many separators and what's written, or the refusal."""
    answer = last(*rules, text(codes(row)), tight(codes(separator)))
    return answer[0] if answer[0] < 0 else (answer[0], bytes(answer[1:]).decode("latin-1"))


class Ordinary(unittest.TestCase):
    def test_the_answer_as_it_stands(self):
        self.assertEqual(last(*NAMES, text(codes("a  = b")), tight(codes(" "))), [0, 97, 61, 98])
        self.assertEqual(last(*NAMES, text(codes("a  b")), tight([32, 32])), [1, 97, 32, 32, 98])

    def test_no_separator_is_wanted(self):
        self.assertEqual(written(NAMES, "a=b"), (0, "a=b"))
        self.assertEqual(written(NAMES, "  a = 12 + b "), (0, "a=12+b"))
        self.assertEqual(written(NAMES, "a 1 b 2 c"), (0, "a1b2c"))

    def test_some_are_wanted(self):
        self.assertEqual(written(NAMES, "a b = c"), (1, "a b=c"))
        self.assertEqual(written(NAMES, " a 1 2   b = = c"), (2, "a1 2b= =c"))
        self.assertEqual(written(NAMES, "a == = b"), (0, "a===b"))
        self.assertEqual(written(NAMES, "a = == b"), (1, "a= ==b"))

    def test_one_ahead_of_each_is_wanted(self):
        self.assertEqual(written(NAMES, "a b"), (1, "a b"))
        self.assertEqual(written(NAMES, "a  b   c"), (2, "a b c"))
        self.assertEqual(written(NAMES, "= = ="), (2, "= = ="))
        self.assertEqual(written(NAMES, "a b c d e f g h i"), (8, "a b c d e f g h i"))

    def test_a_single_separator_does_where_the_text_had_more(self):
        self.assertEqual(written(NAMES, "ab      cd"), (1, "ab cd"))
        self.assertEqual(written(NAMES, "ab cd", "     "), (1, "ab     cd"))

    def test_the_separator_may_be_any_that_is_nothing_there(self):
        remark = rule(0, 64, 0, 0, seq(one("#"), star(none_of(";")), one(";")))
        self.assertEqual(written(NAMES + [remark], "a b", "#x y;"), (1, "a#x y;b"))
        self.assertEqual(written(NAMES + [remark], "a #b; b=c", "#;"), (1, "a#;b=c"))

    def test_pieces_of_nothing_are_not_written(self):
        remark = rule(0, 64, 0, 0, seq(one("#"), star(none_of(";")), one(";")))
        self.assertEqual(written(NAMES + [remark], "#a b;x#y;1"), (0, "x1"))

    def test_words_that_have_blanks_in_them(self):
        quoted = rule(0, 5, 0, 0, seq(one('"'), star(none_of('"')), one('"')))
        self.assertEqual(written(NAMES + [quoted], 'a "b  c" d'), (0, 'a"b  c"d'))

    def test_behind_an_edit_and_a_second_text(self):
        self.assertEqual(last(*NAMES, text(codes("a b")), [5, 1, 1, 1, 61], tight(codes(" "))), [0] + codes("a=b"))
        self.assertEqual(last(*NAMES, text(codes("a b")), text(codes("c d")), tight(codes(" "))), [1] + codes("c d"))


class HowManyWords(unittest.TestCase):
    def test_none(self):
        for row in ("", " ", "     "):
            self.assertEqual(written(NAMES, row), (0, ""))
            self.assertEqual(written(NAMES, row, ""), (0, ""))
        self.assertEqual(ask(tight([]), tight([1]), text([]), tight([255] * 200)), [[0], [0], [0, 0], [0]])

    def test_one(self):
        self.assertEqual(written(NAMES, "abc"), (0, "abc"))
        self.assertEqual(written(NAMES, "  abc  "), (0, "abc"))
        self.assertEqual(last(rule(0, 1, 0, 0, plus(ANY)), text([7] * 200), tight([])), [0] + [7] * 200)

    def test_9_and_10(self):
        self.assertEqual(written(NAMES, "a=b=c=d=e"), (0, "a=b=c=d=e"))
        self.assertEqual(written(NAMES, "a=b=c=d=e="), -5)
        self.assertEqual(written(NAMES, "a b c d e f g h i j"), -5)
        self.assertEqual(last(rule(0, 1, 0, 0, ANY), text([7] * 200), tight([])), [-5])

    def test_pieces_of_nothing_do_not_count(self):
        self.assertEqual(written(EVERY_LETTER, " ".join("abcdefghi") + " " * 50), (0, "abcdefghi"))


class Separators(unittest.TestCase):
    def test_of_no_byte(self):
        self.assertEqual(written(NAMES, "a = b", ""), (0, "a=b"))
        self.assertEqual(written(NAMES, "a b", ""), -2)

    def test_of_200_bytes(self):
        self.assertEqual(written(NAMES, "a b", " " * 200), (1, "a" + " " * 200 + "b"))
        self.assertEqual(written(NAMES, "a b", "x" * 200), -2)

    def test_of_201_bytes(self):
        self.assertEqual(written(NAMES, "a b", " " * 201), -1)
        self.assertEqual(last(*NAMES, text(codes("a=b")), tight([32] * 1024)), [-1])

    def test_numbers_above_255(self):
        self.assertEqual(last(rule(0, 1, 0, 0, plus(one("a"))), rule(0, 64, 0, 0, [1, 1, 255]), text([97, 255, 97]),
                              tight([255])), [1, 97, 255, 97])
        for separator in ([256], [32, 256], [256, 32], [2 ** 32 + 32], [TOP]):
            self.assertEqual(last(*NAMES, text(codes("a b")), tight(separator)), [-1])
            # Refused even if none is wanted.
            self.assertEqual(last(*NAMES, text(codes("a")), tight(separator)), [-1])
            self.assertEqual(ask(tight(separator)), [[-1]])

    def test_a_written_row_of_more_than_200_bytes(self):
        row = "a" * 99 + " " + "b" * 100
        self.assertEqual(written(NAMES, row, " " * 3), (1, "a" * 99 + "   " + "b" * 100))
        self.assertEqual(written(NAMES, " ".join("abcdefghi"), " " * 200), (8, (" " * 200).join("abcdefghi")))

    def test_no_way_among_long_rows(self):
        # The last name is in another mode, which nothing opens in what's written.
        remark = [begin(2)] + NAMES + [rule(0, 64, 1, 1, one("(")), rule(1, 1, 0, 0, plus(span(97, 122)))]
        self.assertEqual(written(remark, "a b c d e f g h(i", " " * 200), -2)
        self.assertEqual(written(remark, "a b c d e f g h(i", " " * 199 + "("), -2)
        self.assertEqual(written(remark, "a b c d e f(g", "("), -2)
        self.assertEqual(written(remark, "a(i", "("), (1, "a(i"))

    def test_none_ahead_of_the_first_word(self):
        # With one ahead of it the name would be in its mode.
        remark = [begin(2)] + NAMES + [rule(0, 64, 1, 1, one("(")), rule(1, 1, 0, 0, plus(span(97, 122)))]
        self.assertEqual(written(remark, "(a", "("), -2)


class NoWay(unittest.TestCase):
    def test_a_separator_that_is_a_word(self):
        self.assertEqual(written(NAMES, "a b", "="), -2)
        self.assertEqual(written(NAMES, "a b", "1"), -2)
        self.assertEqual(written(NAMES, "a b", "c"), -2)

    def test_a_separator_that_is_odd(self):
        self.assertEqual(written(NAMES, "a b", "!"), -2)
        self.assertEqual(written(NAMES, "a b", " ! "), -2)

    def test_a_separator_that_joins(self):
        joined = NAMES + [rule(0, 9, 0, 0, seq(plus(span(97, 122)), one(" "), plus(span(97, 122))))]
        self.assertEqual(written(joined, "a  b", " "), -2)
        self.assertEqual(written(joined, "a  b", "  "), (1, "a  b"))

    def test_a_separator_that_opens_what_stays_open(self):
        self.assertEqual(written([begin(2), rule(0, 1, 0, 0, plus(span(97, 122))), rule(0, 64, 1, 1, one(" ")),
                                  rule(1, 64, 2, 0, one(" "))], "a  b", " "), -2)

    def test_one_word_that_is_not_the_first_of_a_text(self):
        self.assertEqual(written([begin(2), rule(0, 64, 1, 1, one("(")), rule(1, 1, 0, 0, ANY)], "(a"), -2)


class SameWords(unittest.TestCase):
    """Words are the same with their kinds, their modes and their bytes, in order."""

    def test_the_kind(self):
        # The x is in mode 1 both times; behind > there's no mode left to go to, and so it's odd.
        rules = [begin(2), rule(0, 1, 0, 0, one("a")), rule(0, 64, 1, 1, one("(")), rule(0, 64, 3, 1, one(">")),
                 rule(1, 2, 2, 0, one("x"))]
        self.assertEqual(written(rules, "a(x", "("), (1, "a(x"))
        self.assertEqual(written(rules, "a(x", ">"), -2)

    def test_the_mode(self):
        rules = [begin(2), rule(0, 1, 1, 1, one("a")), rule(1, 2, 0, 0, one("b")), rule(1, 64, 2, 0, one(" ")),
                 rule(0, 2, 0, 0, one("b"))]
        self.assertEqual(written(rules, "ab"), (0, "ab"))
        self.assertEqual(written(rules, "a b"), (1, "a b"))
        self.assertEqual(written(rules, "a b", ""), -2)

    def test_the_bytes(self):
        # aab and the like are cut into two names as well, but other ones.
        rules = [rule(0, 1, 0, 0, one("ab")), rule(0, 1, 0, 0, word("aa")), rule(0, 64, 0, 0, one(" "))]
        self.assertEqual(written(rules, "a aa"), (1, "a aa"))
        self.assertEqual(written(rules, "aa a"), (0, "aaa"))

    def test_no_more_words(self):
        # Behind the y of the separator there is one word more.
        rules = [rule(0, 1, 0, 0, one("x")), rule(0, 2, 0, 0, one("y")), rule(0, 9, 0, 0, word("xy")),
                 rule(0, 64, 0, 0, one("z "))]
        self.assertEqual(written(rules, "x y", "zy"), -2)
        self.assertEqual(written(rules, "x y", "z"), (1, "xzy"))

    def test_no_fewer_words(self):
        # Behind the separator the y is nothing.
        rules = [begin(2), rule(0, 1, 0, 0, one("x")), rule(0, 2, 0, 0, one("y")), rule(0, 9, 0, 0, word("xy")),
                 rule(0, 64, 3, 1, one(">")), rule(0, 64, 0, 0, one(" ")), rule(1, 64, 0, 0, ANY)]
        self.assertEqual(written(rules, "x y", ">"), -2)
        self.assertEqual(written(rules, "x y"), (1, "x y"))

    def test_in_order(self):
        # In the mode that is gone over to, the words would come the other way round.
        rules = [begin(2), rule(0, 1, 3, 1, one("x")), rule(0, 9, 0, 0, word("xy")), rule(1, 2, 0, 0, one("y")),
                 rule(1, 1, 0, 0, one("x")), rule(1, 64, 0, 0, one(" "))]
        self.assertEqual(written(rules, "x y x"), (1, "x yx"))
        self.assertEqual(written(rules, "x x y"), (0, "xxy"))

    def test_all_open_modes_need_not_be_the_same(self):
        # b is in mode 1 both times, behind one bracket or two.
        rules = [begin(2), rule(0, 64, 1, 1, one("(")), rule(1, 64, 1, 1, one("(")), rule(0, 1, 0, 0, one("a")),
                 rule(1, 2, 0, 0, one("b"))]
        self.assertEqual(written(rules, "a((b", "("), (1, "a(b"))
        self.assertEqual(written(rules, "a(b", "((("), (1, "a(((b"))

    def test_words_may_stand_where_the_separator_does(self):
        # The y of the separator is the word, and the word's own y is nothing behind it.
        rules = [begin(2), rule(0, 1, 0, 0, one("x")), rule(0, 2, 3, 1, one("y")), rule(0, 9, 0, 0, word("xy")),
                 rule(0, 64, 0, 0, one("z ")), rule(1, 64, 0, 0, ANY)]
        self.assertEqual(written(rules, "x y", "zy"), (1, "xzyy"))

    def test_words_that_look_to_the_end(self):
        # A quote that isn't closed: what it is, is known only when all is written.
        rules = NAMES + [rule(0, 5, 0, 0, one('"')), rule(0, 6, 0, 0, seq(one('"'), star(none_of('"')), one('"')))]
        self.assertEqual(written(rules, '" a b = c'), (1, '"a b=c'))
        self.assertEqual(written(rules, '" a b', '"'), -2)
        self.assertEqual(written(rules, 'a b "'), (1, 'a b"'))
        far = NAMES + [rule(0, 7, 0, 0, seq(star(ANY), one("!")))]
        self.assertEqual(written(far, "a b = = c d"), (3, "a b= =c d"))
        self.assertEqual(written(far, "a b c", " !"), -2)


# Two blanks between, so that the text is none of the rows that are ruled out.
SPACED = "a  b  c  d  e"


def poisoned(letters, allowed):
    """Rules by which no written row is right but those with a separator at just one of these sets of places."""
    found = [(1, 0, codes(letter)) for letter in letters]
    rows = []
    for many in range(len(letters)):
        for places in combinations(range(1, len(letters)), many):
            if places not in allowed:
                rows.append(fold(3, [[1, 1, byte] for byte in put_together(found, places, [32])]))
    return EVERY_LETTER + [rule(0, 2, 0, 0, either(*rows[first:first + 8])) for first in range(0, len(rows), 8)]


class TheBestPlaces(unittest.TestCase):
    def test_the_first_place_nearest_to_the_beginning(self):
        rules = EVERY_LETTER + [rule(0, 2, 0, 0, word("aaa"))]
        self.assertEqual(written(rules, "a a a"), (1, "a aa"))
        self.assertEqual(written(rules, "aa a"), (1, "a aa"))

    def test_then_the_second(self):
        rules = EVERY_LETTER + [rule(0, 2, 0, 0, word("aaa")), rule(0, 3, 0, 0, word("bb"))]
        self.assertEqual(written(rules, "a a a a a"), (2, "a aa aa"))
        self.assertEqual(written(rules, "b b a a a"), (2, "b ba aa"))
        self.assertEqual(written(rules, "a a a b b"), (2, "a aab b"))

    def test_then_the_third(self):
        rules = EVERY_LETTER + [rule(0, 2, 0, 0, word("aaa")), rule(0, 3, 0, 0, word("bb"))]
        self.assertEqual(written(rules, "b b a a a a a"), (3, "b ba aa aa"))
        self.assertEqual(written(rules, "a a a b a a a a a"), (3, "a aaba aa aa"))

    def test_fewer_are_better_than_nearer_ones(self):
        self.assertEqual(written(poisoned("abcd", [(1, 2), (3,)]), "a  b  c  d"), (1, "abc d"))
        self.assertEqual(written(poisoned("abcde", [(1, 2, 3), (3, 4)]), SPACED), (2, "abc d e"))

    def test_each_set_if_it_is_the_only_one(self):
        for many in range(5):
            for places in combinations(range(1, 5), many):
                row = "".join((" " if number in places else "") + letter for number, letter in enumerate("abcde"))
                self.assertEqual(written(poisoned("abcde", [places]), SPACED), (many, row))
        self.assertEqual(written(poisoned("abcde", []), SPACED), -2)

    def test_of_two_sets_the_better(self):
        for better, other in (((1, 4), (2, 3)), ((1, 4), (3, 4)), ((2, 3), (2, 4)), ((1, 3, 4), (2, 3, 4)),
                              ((1, 2, 4), (1, 3, 4)), ((1, 2), (1, 3)), ((4,), (1, 2)), ((), (1,)), ((3,), (4,)),
                              ((3, 4), (1, 2, 3)), ((1, 2, 3), (1, 2, 4)), ((2, 3, 4), (1, 2, 3, 4))):
            row = "".join((" " if number in better else "") + letter for number, letter in enumerate("abcde"))
            self.assertEqual(written(poisoned("abcde", [better, other]), SPACED), (len(better), row))

    def test_of_many_sets_the_best(self):
        every = [places for many in range(5) for places in combinations(range(1, 5), many)]
        chance = Chance(5)
        for _ in range(40):
            allowed = [places for places in every[chance.below(15):] if chance.below(3) == 0]
            answer = written(poisoned("abcde", allowed), SPACED)
            if not allowed:
                self.assertEqual(answer, -2)
                continue
            best = min(allowed, key=lambda places: (len(places), places))
            row = "".join((" " if number in best else "") + letter for number, letter in enumerate("abcde"))
            self.assertEqual(answer, (len(best), row), allowed)

    def test_sets_of_nine_words(self):
        # Two letters together that may not be, and two with a blank between that may not be.
        chance = Chance(9)
        for _ in range(30):
            places = [place for place in range(1, 9) if chance.below(2)]
            together = [word("abcdefghi"[place - 1:place + 1]) for place in places]
            apart = [word("abcdefghi"[place - 1] + " " + "abcdefghi"[place]) for place in range(1, 9)
                     if place not in places]
            rules = EVERY_LETTER + [rule(0, 2, 0, 0, pattern) for pattern in together + apart]
            row = "".join((" " if number in places else "") + letter for number, letter in enumerate("abcdefghi"))
            self.assertEqual(written(rules, "  ".join("abcdefghi")), (len(places), row))

    def test_where_one_leads_to_another(self):
        # A separator ahead of b makes one ahead of d wanted, so the later one alone is better.
        rules = EVERY_LETTER + [rule(0, 2, 0, 0, word("abc")), rule(0, 2, 0, 0, word("a bcd"))]
        self.assertEqual(written(rules, "a b c d"), (1, "ab cd"))


class Refusals(unittest.TestCase):
    def test_odd_pieces(self):
        self.assertEqual(written(NAMES, "a ! b"), -3)
        self.assertEqual(written(NAMES, "!"), -3)
        self.assertEqual(written(NAMES, " !"), -3)
        self.assertEqual(written(NAMES, "a b!"), -3)
        self.assertEqual(last(text([1]), tight([])), [-3])

    def test_odd_since_it_cannot_be_done(self):
        self.assertEqual(written([rule(0, 1, 2, 0, one("a"))], "a"), -3)
        self.assertEqual(written([rule(0, 64, 2, 0, one("a"))], "a"), -3)
        self.assertEqual(written([rule(0, 64, 1, 0, one("(")), rule(0, 64, 2, 0, one(")"))], "(" * 16), -3)
        self.assertEqual(written([rule(0, 64, 1, 0, one("(")), rule(0, 64, 2, 0, one(")"))], "(" * 15), (0, ""))

    def test_of_several_the_one_told_first(self):
        ten = "a b c d e f g h i j"
        remark = [begin(2), rule(0, 64, 1, 1, one("(")), rule(1, 1, 0, 0, span(97, 122))]
        for wrong in ([256], [32] * 201):
            for row in ("a ! b", ten + "!", ten, "a b"):
                self.assertEqual(last(*NAMES, text(codes(row)), tight(wrong)), [-1])
            self.assertEqual(last(*remark, text(codes("(a")), tight(wrong)), [-1])
        # An odd piece; more than 9 words, or no way.
        self.assertEqual(written(NAMES, ten + "!"), -3)
        self.assertEqual(written(NAMES, "!" * 10), -3)
        self.assertEqual(written(NAMES, "a b!", "="), -3)
        self.assertEqual(written(remark, "(a!"), -3)
        # More than 9 words and no way.
        self.assertEqual(written(remark, "(abcdefghij"), -5)
        self.assertEqual(written(NAMES, ten, "="), -5)
        self.assertEqual(written(remark, "(abcdefghi"), -2)

    def test_all_is_as_it_was_behind_a_refusal(self):
        remark = [begin(2)] + NAMES + [rule(0, 64, 1, 1, one("(")), rule(1, 1, 0, 0, plus(span(97, 122)))]
        behind = [pieces(), words(), tight(codes(" ")), longest(0, codes("ab")), [5, 0, 1, 1, 97], pieces(),
                  rule(1, 3, 0, 0, one("=")), text(codes("a(b=")), pieces()]
        for row, separator, number in (("a b", [256], -1), ("a b", [32] * 201, -1), ("a!", [32], -3),
                                       ("a b c d e f g h i j", [32], -5), ("a b", [61], -2), ("a(b", [32], -2)):
            made = remark + [text(codes(row))]
            told = ask(*made, tight(separator), *behind)[-len(behind) - 1:]
            self.assertEqual(told, [[number]] + ask(*made, *behind)[-len(behind):])

    def test_the_text_stays(self):
        told = ask(*NAMES, text(codes("a  b = c")), pieces(), tight(codes(" ")), pieces(), tight([]), pieces(),
                   tight(codes(" ")))[-6:]
        self.assertEqual(told[1], [1] + codes("a b=c"))
        self.assertEqual(told[3], [-2])
        self.assertEqual([told[2], told[4], told[5]], [told[0], told[0], told[1]])


if __name__ == "__main__":
    unittest.main()
