"""How a text is cut into pieces: rules, modes, kinds, odd pieces."""

import unittest

from support import ANY, NOTHING, ask, begin, codes, cut, either, last, none, none_of, one, pieces, plus, rule, seq
from support import span, star, text, word

NAME, NUMBER, SIGN, NO_KIND, ODD = 1, 2, 3, 64, 65


def shown(found):
    """Kind, length and mode of each piece."""
    return [(kind, length, mode) for kind, place, length, mode, far in found]


class OneMode(unittest.TestCase):
    def setUp(self):
        self.rules = [begin(1), rule(0, NAME, 0, 0, plus(span(97, 122))), rule(0, NUMBER, 0, 0, plus(span(48, 57))),
                      rule(0, NO_KIND, 0, 0, plus(one(" ")))]

    def test_names_and_numbers(self):
        self.assertEqual(cut(*self.rules, text(codes("ab 12"))),
                         [(1, 0, 2, 0, 3), (64, 2, 1, 0, 4), (2, 3, 2, 0, 6)])

    def test_told_of_a_text(self):
        self.assertEqual(last(*self.rules, text(codes("ab 12"))), [3, 0])
        self.assertEqual(last(*self.rules, text(codes("ab=!12"))), [4, 2])

    def test_no_row_is_one_odd_byte(self):
        self.assertEqual(cut(*self.rules, text(codes("a==b"))),
                         [(1, 0, 1, 0, 2), (ODD, 1, 1, 0, 2), (ODD, 2, 1, 0, 3), (1, 3, 1, 0, 5)])

    def test_no_byte_is_no_piece(self):
        self.assertEqual(ask(*self.rules, text([]), pieces())[-2:], [[0, 0], [0]])

    def test_no_rule(self):
        self.assertEqual(ask(text([0, 255]), pieces()), [[2, 2], [2, 65, 0, 1, 0, 1, 65, 1, 1, 0, 2]])

    def test_200_bytes(self):
        self.assertEqual(last(text([7] * 200)), [200, 200])
        self.assertEqual(cut(rule(0, 0, 0, 0, star(ANY)), text([255] * 200)), [(0, 0, 200, 0, 201)])

    def test_kinds(self):
        for kind in (0, 1, 63, 64):
            self.assertEqual(ask(rule(0, kind, 0, 0, ANY), text([5]), pieces())[1:], [[1, 0], [1, kind, 0, 1, 0, 1]])


class LongestAndFirst(unittest.TestCase):
    def test_the_longest_of_all_rules(self):
        for order in ((1, 2, 3), (3, 2, 1), (2, 3, 1)):
            found = cut(*[rule(0, size, 0, 0, word("aaa"[:size])) for size in order], text(codes("aaaaa")))
            self.assertEqual(shown(found), [(3, 3, 0), (2, 2, 0)])

    def test_of_as_long_ones_the_first(self):
        named = plus(span(97, 122))
        first = cut(rule(0, 5, 0, 0, word("if")), rule(0, 6, 0, 0, named), text(codes("if")))
        self.assertEqual(shown(first), [(5, 2, 0)])
        second = cut(rule(0, 6, 0, 0, named), rule(0, 5, 0, 0, word("if")), text(codes("if")))
        self.assertEqual(shown(second), [(6, 2, 0)])
        longer = cut(rule(0, 5, 0, 0, word("if")), rule(0, 6, 0, 0, named), text(codes("iff")))
        self.assertEqual(shown(longer), [(6, 3, 0)])

    def test_the_first_that_does_something(self):
        found = cut(begin(2), rule(0, 1, 1, 1, one("a")), rule(0, 2, 0, 0, one("a")), text(codes("aa")))
        self.assertEqual(shown(found), [(1, 1, 0), (ODD, 1, 1)])

    def test_a_longer_row_is_given_up_where_it_fails(self):
        found = cut(rule(0, 1, 0, 0, one("a")), rule(0, 2, 0, 0, word("aaab")), text(codes("aaac")))
        self.assertEqual(shown(found), [(1, 1, 0), (1, 1, 0), (1, 1, 0), (ODD, 1, 0)])

    def test_rows_of_no_byte_are_no_pieces(self):
        for pattern in (none(), star(one("b")), NOTHING, star(NOTHING)):
            self.assertEqual(shown(cut(rule(0, 1, 0, 0, pattern), text(codes("aa")))), [(ODD, 1, 0)] * 2)

    def test_rules_of_other_modes_do_not_hold(self):
        found = cut(begin(2), rule(1, 1, 0, 0, plus(one("a"))), rule(0, 2, 0, 0, one("a")), text(codes("aa")))
        self.assertEqual(shown(found), [(2, 1, 0), (2, 1, 0)])

    def test_24_rules(self):
        calls = [rule(0, number, 0, 0, one(chr(97 + number))) for number in range(24)]
        told = ask(*calls, text(codes("xa")), rule(0, 24, 0, 0, ANY), pieces())
        self.assertEqual(told[:24], [[number] for number in range(24)])
        self.assertEqual(told[24:], [[2, 0], [-5], [2, 23, 0, 1, 0, 1, 0, 1, 1, 0, 2]])


class Modes(unittest.TestCase):
    def test_remarks_within_remarks(self):
        rules = [begin(2), rule(0, 1, 0, 0, plus(span(97, 122))), rule(0, 64, 1, 1, one("(")),
                 rule(1, 64, 1, 1, one("(")), rule(1, 64, 2, 0, one(")")), rule(1, 64, 0, 0, plus(none_of("()")))]
        found = cut(*rules, text(codes("a(b(c)d)e)")))
        self.assertEqual(shown(found), [(1, 1, 0), (64, 1, 0), (64, 1, 1), (64, 1, 1), (64, 1, 1), (64, 1, 1),
                                        (64, 1, 1), (64, 1, 1), (1, 1, 0), (ODD, 1, 0)])

    def test_opens_and_leaves(self):
        rules = [begin(3), rule(0, 10, 1, 2, one("(")), rule(2, 12, 1, 1, one("(")), rule(1, 11, 1, 0, one("("))]
        rules += [rule(mode, 20 + mode, 2, 0, one(")")) for mode in range(3)]
        rules += [rule(mode, 30 + mode, 0, 0, one("a")) for mode in range(3)]
        found = cut(*rules, text(codes("a(a(a(a)a)a)a")))
        self.assertEqual([(piece[0], piece[2]) for piece in shown(found)],
                         [(30, 0), (10, 0), (32, 2), (12, 2), (31, 1), (11, 1), (30, 0), (20, 0), (31, 1), (21, 1),
                          (32, 2), (22, 2), (30, 0)])

    def test_goes_over(self):
        # From 0 over to 1, 1 opens 2, 2 goes over to 0: behind leaving it, 1 is there, and then no more.
        rules = [begin(3), rule(0, 1, 3, 1, one("a")), rule(1, 2, 1, 2, one("a")), rule(2, 3, 3, 0, one("a")),
                 rule(0, 4, 2, 0, one("b")), rule(1, 5, 2, 0, one("b"))]
        found = cut(*rules, text(codes("aaabbb")))
        self.assertEqual(shown(found), [(1, 1, 0), (2, 1, 1), (3, 1, 2), (4, 1, 0), (ODD, 1, 1), (ODD, 1, 1)])

    def test_goes_over_to_itself(self):
        found = cut(rule(0, 1, 3, 0, one("a")), rule(0, 2, 2, 0, one("b")), text(codes("aab")))
        self.assertEqual(shown(found), [(1, 1, 0), (1, 1, 0), (ODD, 1, 0)])

    def test_nothing_is_done_by_0_and_the_mode_told_is_not_looked_at(self):
        found = cut(begin(2), rule(0, 1, 0, 1, one("a")), rule(1, 2, 0, 0, one("a")), text(codes("aa")))
        self.assertEqual(shown(found), [(1, 1, 0), (1, 1, 0)])

    def test_leaving_does_not_look_at_the_mode_told(self):
        rules = [begin(3), rule(0, 1, 1, 1, one("(")), rule(1, 2, 2, 2, one(")")), rule(0, 3, 0, 0, one("a")),
                 rule(2, 4, 0, 0, one("a"))]
        self.assertEqual(shown(cut(*rules, text(codes("()a")))), [(1, 1, 0), (2, 1, 1), (3, 1, 0)])

    def test_8_modes(self):
        rules = [begin(8)] + [rule(mode, mode, 3, (mode + 1) % 8, one("a")) for mode in range(8)]
        found = cut(*rules, text(codes("a" * 9)))
        self.assertEqual(shown(found), [(mode % 8, 1, mode % 8) for mode in range(9)])


class Odd(unittest.TestCase):
    def test_leaving_the_only_mode(self):
        found = cut(rule(0, 1, 2, 0, plus(one("a"))), rule(0, 2, 0, 0, one("b")), text(codes("aaab")))
        self.assertEqual(found, [(ODD, 0, 3, 0, 4), (2, 3, 1, 0, 4)])

    def test_16_open_and_one_more(self):
        rules = [begin(2), rule(0, 1, 1, 1, one("(")), rule(1, 2, 1, 1, word("((")), rule(1, 3, 2, 0, one(")"))]
        told = ask(*rules, text(codes("(" + "((" * 14)), text(codes("(" + "((" * 15 + ")")), pieces())
        self.assertEqual(told[-3:-1], [[15, 0], [17, 1]])
        found = cut(*rules, text(codes("(" + "((" * 15 + ")" * 16)))
        kinds = [1] + [2] * 14 + [ODD] + [3] * 15 + [ODD]
        self.assertEqual([piece[0] for piece in found], kinds)
        self.assertEqual(shown(found)[15], (ODD, 2, 1))
        self.assertEqual(shown(found)[-1], (ODD, 1, 0))

    def test_going_over_is_always_done(self):
        rules = [begin(2), rule(0, 1, 1, 0, one("(")), rule(0, 2, 3, 1, one("a")), rule(1, 3, 2, 0, one(")")),
                 rule(0, 4, 2, 0, one(")"))]
        found = cut(*rules, text(codes("(" * 15 + "a" + ")" * 16)))
        self.assertEqual([piece[0] for piece in found], [1] * 15 + [2, 3] + [4] * 14 + [ODD])
        # With one open it is done too, and still just one is open behind it.
        self.assertEqual(shown(cut(*rules, text(codes("a)")))), [(2, 1, 0), (ODD, 1, 1)])

    def test_nothing_with_kind_64_is_odd_where_it_cannot_be_done(self):
        self.assertEqual(ask(rule(0, 64, 2, 0, ANY), text([1, 2]))[-1], [2, 2])
        self.assertEqual(ask(rule(0, 64, 0, 0, ANY), text([1, 2]))[-1], [2, 0])

    def test_an_odd_piece_takes_its_rule_and_leaves_the_modes(self):
        # The longest row can't be done: no shorter one and no later rule is taken in its place.
        rules = [rule(0, 1, 2, 0, word("ab")), rule(0, 2, 0, 0, word("ab")), rule(0, 3, 0, 0, one("a"))]
        self.assertEqual(cut(*rules, text(codes("ab"))), [(ODD, 0, 2, 0, 2)])

    def test_a_byte_that_no_rule_matches_leaves_the_modes(self):
        rules = [begin(2), rule(0, 1, 1, 1, one("(")), rule(1, 2, 2, 0, one(")")), rule(0, 3, 0, 0, one("a"))]
        self.assertEqual(shown(cut(*rules, text(codes("(a)a")))), [(1, 1, 0), (ODD, 1, 1), (2, 1, 1), (3, 1, 0)])


class HowFarOneLooked(unittest.TestCase):
    def far(self, row, *patterns):
        return [piece[4] for piece in cut(*[rule(0, 1, 0, 0, pattern) for pattern in patterns], text(codes(row)))]

    def test_no_longer_than_is_needed(self):
        self.assertEqual(self.far("ab", one("a"), one("b")), [1, 2])
        self.assertEqual(self.far("abc", word("ab"), one("c")), [2, 3])

    def test_one_byte_that_ends_the_row(self):
        self.assertEqual(self.far("aab", plus(one("a")), one("b")), [3, 3])

    def test_a_rule_that_could_still_match_more(self):
        self.assertEqual(self.far("abcx", one("a"), word("abcd"), span(98, 122)), [4, 4, 4, 4])

    def test_the_longer_row_is_wanted_of_any_rule_of_the_mode(self):
        self.assertEqual(self.far("aaab", star(one("a")), one("a"), one("b")), [4, 4])
        self.assertEqual(self.far("aab", one("b"), seq(one("a"), plus(one("a")), one("c")), one("a")), [3, 3, 3])

    def test_rules_of_another_mode_do_not_count(self):
        found = cut(begin(2), rule(0, 1, 0, 0, one("a")), rule(1, 1, 0, 0, word("aaa")), text(codes("aa")))
        self.assertEqual([piece[4] for piece in found], [1, 2])

    def test_the_end_is_one_byte_more(self):
        self.assertEqual(self.far("a", plus(one("a"))), [2])
        self.assertEqual(self.far("aa", word("aaa"), one("a")), [3, 3])
        self.assertEqual(self.far("ba", one("b"), plus(one("a"))), [1, 3])

    def test_the_end_is_not_looked_at_where_nothing_more_matches(self):
        self.assertEqual(self.far("aa", word("aa")), [2])

    def test_one_byte_is_always_looked_at(self):
        self.assertEqual(self.far("ab"), [1, 2])
        for pattern in (none(), NOTHING, seq(one("a"), NOTHING), star(NOTHING), either(none(), NOTHING)):
            self.assertEqual(self.far("ab", pattern), [1, 2], pattern)

    def test_a_row_that_no_rule_finishes_is_not_looked_for(self):
        # Behind an a something is asked that no byte is: so the rule matches no row, and no byte more is wanted.
        self.assertEqual(self.far("aab", one("a"), seq(plus(one("a")), NOTHING)), [1, 2, 3])
        self.assertEqual(self.far("aab", one("a"), seq(one("a"), maybe_never())), [1, 2, 3])

    def test_the_greatest_of_all_ahead(self):
        # The first a looks to the end; what is behind it looks less far itself.
        self.assertEqual(self.far("abcb", one("a"), seq(one("a"), star(none_of("z")), one("z")), one("b"), one("c")),
                         [5, 5, 5, 5])
        self.assertEqual(self.far("abcbd", one("a"), word("abcz"), span(98, 100)), [4, 4, 4, 4, 5])

    def test_odd_pieces_look_as_far_as_rules_ask(self):
        self.assertEqual(self.far("abx", word("abc")), [3, 3, 3])
        self.assertEqual(self.far("xab", word("abc")), [1, 4, 4])

    def test_rows_longer_than_a_text_may_be(self):
        self.assertEqual(cut(rule(0, 1, 0, 0, seq(*[ANY] * 300)), text([9] * 200))[0], (ODD, 0, 1, 0, 201))


def maybe_never():
    return [6] + list(NOTHING)


if __name__ == "__main__":
    unittest.main()
