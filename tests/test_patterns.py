"""What the sorts of pattern match, and which lists are a pattern."""

import unittest

from support import ANY, NOTHING, TOP, ask, begin, codes, cut, either, last, maybe, none, none_of, one, plus, rule
from support import seq, span, star, text, word


def first_length(pattern, row):
    """The length of the first piece if the one rule's pattern matches there, or 0."""
    kind, place, length, mode, far = cut(rule(0, 7, 0, 0, pattern), text(row))[0]
    return 0 if kind == 65 else length


def told_of(pattern):
    return last(rule(0, 7, 0, 0, pattern))


class Sorts(unittest.TestCase):
    def check(self, pattern, wanted):
        for row, length in wanted.items():
            self.assertEqual(first_length(pattern, codes(row)), length, (pattern, row))

    def test_0_no_byte(self):
        self.check(none(), {"a": 0, "\0": 0})
        self.check(seq(none(), one("a"), none()), {"ab": 1, "b": 0})

    def test_1_one_of_these(self):
        self.check(one("ac"), {"a": 1, "c": 1, "ca": 1, "b": 0})
        self.check(one("aaa"), {"aaa": 1, "b": 0})
        self.check(one("\0\xff"), {"\0": 1, "\xff": 1, "\xfe": 0})

    def test_2_none_of_these(self):
        self.check(none_of("ac"), {"b": 1, "\0": 1, "\xff": 1, "a": 0, "c": 0})
        self.check(none_of("aa"), {"b": 1, "a": 0})

    def test_2_any_byte(self):
        self.check(ANY, {"\0": 1, "\xff": 1, "ab": 1})

    def test_2_no_byte_left(self):
        self.check(NOTHING, {"a": 0, "\xff": 0})
        self.check(either(NOTHING, one("a")), {"a": 1, "b": 0})
        self.check(either(one("a"), NOTHING), {"a": 1, "b": 0})
        self.check(seq(one("a"), NOTHING), {"ab": 0})
        self.check(seq(NOTHING, one("a")), {"ba": 0, "a": 0})
        self.check(seq(one("a"), maybe(NOTHING)), {"ab": 1})
        self.check(seq(one("a"), star(NOTHING)), {"ab": 1})
        self.check(seq(one("a"), plus(NOTHING)), {"ab": 0})
        self.check(maybe(seq(star(one("a")), NOTHING)), {"aaa": 0})

    def test_3_one_behind_the_other(self):
        self.check(seq(one("a"), one("b")), {"ab": 2, "abb": 2, "a": 0, "ba": 0, "aa": 0})
        self.check(word("abcde"), {"abcde": 5, "abcdx": 0})

    def test_4_either(self):
        self.check(either(one("a"), word("ab")), {"ab": 2, "ac": 1, "b": 0})
        self.check(either(word("ab"), one("a")), {"ab": 2, "ac": 1, "b": 0})
        self.check(seq(either(one("a"), none()), one("b")), {"ab": 2, "b": 1, "aab": 0})
        self.check(seq(either(none(), one("a")), one("b")), {"ab": 2, "b": 1, "aab": 0})

    def test_5_as_many_as_one_likes(self):
        self.check(star(one("a")), {"aaab": 3, "a": 1, "b": 0})
        self.check(seq(star(one("a")), one("b")), {"aab": 3, "b": 1, "aa": 0})
        self.check(star(word("ab")), {"ababa": 4, "ab": 2, "a": 0})

    def test_6_one_at_least(self):
        self.check(plus(one("a")), {"aaab": 3, "a": 1, "b": 0})
        self.check(seq(plus(one("a")), one("b")), {"aab": 3, "b": 0})
        self.check(seq(plus(star(one("a"))), one("b")), {"aab": 3, "b": 1})

    def test_7_once_or_not(self):
        self.check(seq(maybe(one("a")), one("b")), {"ab": 2, "b": 1, "aab": 0})

    def test_8_from_to(self):
        self.check(span(98, 100), {"a": 0, "b": 1, "c": 1, "d": 1, "e": 0})
        self.check(span(98, 98), {"a": 0, "b": 1, "c": 0})
        self.check(span(0, 255), {"\0": 1, "\xff": 1})
        self.check(span(255, 255), {"\xff": 1, "\xfe": 0})

    def test_stars_within_stars(self):
        self.check(star(star(star(one("a")))), {"aaaab": 4})
        self.check(star(maybe(one("a"))), {"aaaab": 4, "b": 0})
        self.check(star(none()), {"a": 0})
        self.check(plus(either(none(), word("ab"))), {"ababa": 4})
        self.check(star(seq(star(one("a")), star(one("b")))), {"abbaac": 5})

    def test_nested_of_every_sort(self):
        inner = either(seq(one("a"), maybe(span(98, 100))), plus(none_of("a(")))
        quoted = seq(none(), one("("), star(inner), one(")"))
        self.check(quoted, {"()x": 2, "(acab)": 6, "(zzaz)": 6, "((": 0, "x()": 0})

    def test_a_large_pattern(self):
        # 200 bytes may each be there or not, and then there is a b.
        large = seq(*[maybe(ANY)] * 200 + [one("b")])
        self.assertLessEqual(len(large), 1024)
        self.check(large, {"a" * 199 + "b": 200, "b": 1, "a" * 200: 0, "ab" * 100: 200})


class Lists(unittest.TestCase):
    def refuse(self, pattern):
        self.assertEqual(told_of(pattern), [-3], pattern)

    def take(self, pattern):
        self.assertEqual(told_of(pattern), [0], pattern)

    def test_less_than_one_pattern(self):
        for pattern in ([], [1], [1, 1], [1, 2, 97], [2], [2, 1], [2, 3, 1, 2], [3], [3, 0], [4, 0], [5], [6], [7],
                        [8], [8, 1], [3, 5, 0], [4, 3, 0, 0]):
            self.refuse(pattern)

    def test_more_than_one_pattern(self):
        for pattern in ([0, 0], [1, 1, 97, 97], [2, 0, 0], [3, 0, 0, 0], [5, 0, 0], [8, 1, 2, 3], [0] * 1024):
            self.refuse(pattern)

    def test_no_such_sort(self):
        for pattern in ([9], [10], [9, 0], [5, 9], [3, 0, 9], [TOP], [TOP, 0], [5, TOP]):
            self.refuse(pattern)

    def test_one_of_these_has_at_least_one(self):
        self.refuse([1, 0])
        self.refuse([3, 1, 0, 0])
        self.take([1, 1, 0])

    def test_none_of_these_may_have_none(self):
        self.take([2, 0])

    def test_bytes_are_at_most_255(self):
        for sort in (1, 2):
            self.take([sort, 1, 255])
            self.take([sort, 2, 255, 0])
            self.refuse([sort, 1, 256])
            self.refuse([sort, 2, 0, 256])
            self.refuse([sort, 2, 256, 0])
            self.refuse([sort, 1, TOP])

    def test_how_many_bytes_is_as_told(self):
        for sort in (1, 2):
            self.refuse([sort, TOP])
            self.refuse([sort, TOP, 1])
            self.refuse([sort, 2 ** 63, 1])
            self.refuse([sort, 2 ** 63 - 1, 1])
            self.take([sort, 1022] + [7] * 1022)
            self.refuse([sort, 1021] + [7] * 1022)
            self.refuse([sort, 1023] + [7] * 1022)

    def test_from_to(self):
        self.take([8, 0, 255])
        self.take([8, 9, 9])
        self.take([8, 255, 255])
        for low, high in ((10, 9), (1, 0), (0, 256), (256, 256), (255, 256), (256, 255), (0, TOP), (TOP, 0), (TOP, TOP)):
            self.refuse([8, low, high])

    def test_levels(self):
        for leaf in ([0], [1, 1, 97], [2, 0], [8, 97, 97]):
            for sort in (5, 6, 7):
                self.take([sort] * 40 + leaf)
                self.refuse([sort] * 41 + leaf)

    def test_levels_of_two(self):
        for sort in (3, 4):
            # Deep at the left, and deep at the right.
            self.take([sort] * 40 + [0] * 41)
            self.refuse([sort] * 41 + [0] * 42)
            self.take([sort, 0] * 40 + [0])
            self.refuse([sort, 0] * 41 + [0])

    def test_level_41_is_refused_anywhere(self):
        deep = [7] * 38 + [0]
        self.take([3, 4, 0, 0, 7] + deep)
        self.refuse([3, 4, 0, 0, 7, 7, 7] + deep)
        self.refuse([3, 7, 7, 7] + deep + [0])

    def test_40_levels_still_match(self):
        self.assertEqual(first_length([5] * 40 + one("a"), codes("aaab")), 3)
        self.assertEqual(first_length([3, 1, 1, 97] * 40 + one("b"), codes("a" * 40 + "b")), 41)
        self.assertEqual(first_length([4, 1, 1, 97] * 40 + one("b"), codes("b")), 1)

    def test_as_deep_as_a_list_is_long(self):
        for sort in (3, 4, 5, 6, 7):
            self.refuse([sort] * 1024)
            self.refuse([sort] * 1023 + [0])

    def test_as_long_as_a_list_may_be(self):
        # 341 times any byte: 341 * 2 + 340 numbers.
        self.assertEqual(len(seq(*[ANY] * 341)), 1022)
        self.take(seq(*[ANY] * 341))
        self.take([7, 7] + seq(*[ANY] * 341))
        told = ask(begin(1), rule(0, 1, 0, 0, seq(*[ANY] * 200)), text(range(200)), [4])
        self.assertEqual(told[-1], [1, 1, 0, 200, 0, 200])


if __name__ == "__main__":
    unittest.main()
