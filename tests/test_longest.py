"""What longest finds of one rule's pattern."""

import unittest

from support import ANY, NOTHING, TOP, ask, begin, codes, either, last, longest, maybe, none, none_of, one, pieces
from support import plus, rule, seq, span, star, text, word


def found(pattern, row):
    return last(rule(0, 1, 0, 0, pattern), longest(0, codes(row)))


class Rows(unittest.TestCase):
    def check(self, pattern, wanted):
        for row, size in wanted.items():
            self.assertEqual(found(pattern, row), [size], (pattern, row))

    def test_the_longest_of_several(self):
        self.check(plus(one("a")), {"a": 1, "aaab": 3, "aaaa": 4, "b": -3, "": -3, "ba": -3})
        self.check(either(one("a"), word("abc")), {"abc": 3, "abd": 1, "ab": 1, "abcabc": 3, "b": -3})
        self.check(either(word("abc"), one("a")), {"abc": 3, "abd": 1})

    def test_no_byte_too(self):
        self.check(star(one("a")), {"": 0, "b": 0, "ba": 0, "ab": 1, "aa": 2})
        self.check(maybe(word("ab")), {"": 0, "a": 0, "ab": 2, "abab": 2, "b": 0})
        self.check(seq(star(one("a")), maybe(one("b"))), {"": 0, "c": 0, "b": 1, "aabb": 3})
        self.check(either(none(), word("ab")), {"": 0, "aa": 0, "ab": 2})
        self.check(either(word("ab"), none()), {"": 0, "aa": 0, "ab": 2})

    def test_only_the_row_of_no_byte(self):
        for pattern in (none(), seq(none(), none()), star(none()), plus(none()), maybe(none()), star(NOTHING),
                        maybe(NOTHING), either(none(), NOTHING), either(NOTHING, none()), plus(star(NOTHING))):
            self.check(pattern, {"": 0, "a": 0, "aa": 0})

    def test_no_row_at_all(self):
        for pattern in (NOTHING, plus(NOTHING), seq(one("a"), NOTHING), seq(NOTHING, one("a")), seq(none(), NOTHING),
                        seq(NOTHING, none()), seq(star(one("a")), NOTHING), seq(NOTHING, star(one("a"))),
                        either(NOTHING, NOTHING)):
            self.check(pattern, {"": -3, "a": -3, "aa": -3})

    def test_a_row_of_a_byte_or_more_is_asked(self):
        self.check(one("a"), {"": -3, "b": -3, "a": 1})
        self.check(seq(one("a"), star(one("b"))), {"": -3, "b": -3, "a": 1, "abbc": 3})
        self.check(ANY, {"": -3, "\0": 1, "\xff\xff": 1})
        self.check(seq(star(one("a")), one("b")), {"": -3, "aaa": -3, "aab": 3})

    def test_a_longer_row_is_given_up_where_it_fails(self):
        self.check(either(one("a"), word("aaab")), {"aaac": 1, "aaa": 1, "aaab": 4})
        self.check(star(word("ab")), {"ababa": 4, "a": 0, "abaab": 2})

    def test_it_begins_with_the_first_byte(self):
        self.check(word("ab"), {"xab": -3, "ab": 2, "aab": -3})

    def test_a_quote_with_no_end(self):
        quoted = seq(one('"'), star(none_of('"')), one('"'))
        self.check(quoted, {'"ab"c"': 4, '"ab': -3, '""': 2})

    def test_200_bytes(self):
        told = ask(rule(0, 1, 0, 0, star(span(7, 9))), longest(0, [7] * 200), longest(0, [7] * 150 + [6] + [7] * 49),
                   longest(0, [7] * 199 + [6]))
        self.assertEqual(told[1:], [[200], [150], [199]])


class Rules(unittest.TestCase):
    def test_each_rule_by_its_number(self):
        rules = [rule(0, 1, 0, 0, word("abc"[:size])) for size in (1, 3, 2)]
        told = ask(*rules, *[longest(number, codes("abcd")) for number in range(4)])
        self.assertEqual(told[3:], [[1], [3], [2], [-2]])

    def test_whatever_its_mode_its_kind_and_what_it_does(self):
        rules = [begin(3), rule(2, 64, 2, 0, plus(one("a"))), rule(1, 0, 1, 2, one("a")), rule(0, 3, 2, 0, word("aa"))]
        told = ask(*rules, text(codes("b")), *[longest(number, codes("aaa")) for number in range(3)])
        self.assertEqual(told[-3:], [[3], [1], [2]])

    def test_24_rules(self):
        rules = [rule(0, 1, 0, 0, seq(*[one("a")] * size)) for size in range(1, 25)]
        told = ask(*rules, rule(0, 1, 0, 0, ANY), longest(0, codes("a" * 30)), longest(23, codes("a" * 30)),
                   longest(24, codes("a" * 30)))
        self.assertEqual(told[-4:], [[-5], [1], [24], [-2]])

    def test_no_such_rule(self):
        self.assertEqual(ask(longest(0, codes("a"))), [[-2]])
        for number in (1, 2, 24, 256, 2 ** 32, 2 ** 63, TOP):
            self.assertEqual(last(rule(0, 1, 0, 0, ANY), longest(number, codes("a"))), [-2])

    def test_a_refused_rule_is_none(self):
        told = ask(rule(0, 1, 0, 0, [9]), longest(0, []), rule(1, 1, 0, 0, ANY), longest(0, []), rule(0, 1, 0, 0, ANY),
                   longest(0, [3]), longest(1, [3]))
        self.assertEqual(told, [[-3], [-2], [-1], [-2], [0], [1], [-2]])

    def test_no_rule_is_left_by_begin(self):
        self.assertEqual(ask(rule(0, 1, 0, 0, ANY), longest(0, [3]), begin(1), longest(0, [3]),
                             rule(0, 1, 0, 0, none()), longest(0, [3])), [[0], [1], [0], [-2], [0], [0]])
        # A refused one leaves them.
        self.assertEqual(ask(rule(0, 1, 0, 0, ANY), begin(0), longest(0, [3])), [[0], [-1], [1]])

    def test_the_text_is_not_looked_at(self):
        self.assertEqual(ask(rule(0, 1, 0, 0, plus(one("a"))), text(codes("aaaa")), longest(0, codes("a")),
                             longest(0, []), pieces())[2:], [[1], [-3], [1, 1, 0, 4, 0, 5]])


class Refusals(unittest.TestCase):
    def test_bytes_as_with_text(self):
        named = rule(0, 1, 0, 0, star(ANY))
        for row, wanted in (([], 0), ([255], 1), ([256], -1), ([0, 256], -1), ([256, 0], -1), ([TOP], -1),
                            ([2 ** 32], -1), ([9] * 200, 200), ([9] * 201, -1), ([9] * 1024, -1),
                            ([9] * 199 + [256], -1)):
            self.assertEqual(last(named, longest(0, row)), [wanted])

    def test_the_one_told_first(self):
        for row in ([256], [9] * 201, [TOP] * 1024):
            # No such rule, and bytes that aren't: with no rule, with one, and with one that matches none.
            self.assertEqual(ask(longest(0, row)), [[-1]])
            self.assertEqual(last(rule(0, 1, 0, 0, ANY), longest(1, row)), [-1])
            self.assertEqual(last(rule(0, 1, 0, 0, NOTHING), longest(TOP, row)), [-1])
            self.assertEqual(last(rule(0, 1, 0, 0, NOTHING), longest(0, row)), [-1])
        self.assertEqual(last(rule(0, 1, 0, 0, NOTHING), longest(1, [])), [-2])
        self.assertEqual(last(rule(0, 1, 0, 0, NOTHING), longest(0, [])), [-3])

    def test_all_is_as_it_was_behind_a_refusal(self):
        made = [begin(2), rule(0, 1, 1, 1, one("(")), rule(1, 2, 2, 0, one(")")), text(codes("(x)"))]
        behind = [pieces(), longest(1, codes(")")), rule(1, 3, 0, 0, ANY), text(codes("(x)")), pieces()]
        wanted = ask(*made, *behind)[-5:]
        for wrong, number in ((longest(0, [256]), -1), (longest(2, []), -2), (longest(0, codes(")")), -3)):
            self.assertEqual(ask(*made, wrong, *behind)[-6:], [[number]] + wanted)


if __name__ == "__main__":
    unittest.main()
