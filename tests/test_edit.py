"""What edit does to a text, and what it counts."""

import unittest

from support import ANY, TOP, ask, begin, codes, cut, edit, last, none_of, one, pieces, plus, rule, span, star, text
from support import seq, word

WORDS = [begin(2), rule(0, 1, 0, 0, plus(span(97, 122))), rule(0, 64, 0, 0, plus(one(" "))),
         rule(0, 2, 1, 1, one("(")), rule(1, 3, 2, 0, one(")")), rule(1, 64, 0, 0, plus(none_of("()"))),
         rule(1, 2, 1, 1, one("("))]


def told(row, i, n, put):
    return last(*WORDS, text(codes(row)), edit(i, n, codes(put)))


class TheText(unittest.TestCase):
    def check(self, row, i, n, put, wanted):
        changed = cut(rule(0, 1, 0, 0, ANY), text(codes(row)), edit(i, n, codes(put)))
        self.assertEqual(len(changed), len(wanted))
        kinds = [rule(0, byte % 64, 0, 0, [1, 1, byte]) for byte in codes("abcxy")]
        found = cut(*kinds, text(codes(row)), edit(i, n, codes(put)))
        self.assertEqual([piece[0] for piece in found], [byte % 64 for byte in codes(wanted)])

    def test_bytes_taken_out_and_put_there(self):
        self.check("abc", 0, 0, "", "abc")
        self.check("abc", 0, 0, "xy", "xyabc")
        self.check("abc", 3, 0, "xy", "abcxy")
        self.check("abc", 1, 0, "x", "axbc")
        self.check("abc", 1, 1, "", "ac")
        self.check("abc", 1, 2, "y", "ay")
        self.check("abc", 0, 1, "yy", "yybc")
        self.check("abc", 2, 1, "x", "abx")
        self.check("abc", 0, 3, "", "")
        self.check("abc", 0, 3, "xyx", "xyx")
        self.check("", 0, 0, "ab", "ab")
        self.check("", 0, 0, "", "")

    def test_edits_behind_one_another(self):
        found = ask(*WORDS, text(codes("ab")), edit(2, 0, codes(" c")), edit(0, 3, []), edit(1, 0, codes("d")), pieces())
        self.assertEqual(found[-4:], [[3, 0, 1, 0], [1, 0, 0, 1], [1, 0, 0, 0], [1, 1, 0, 2, 0, 3]])

    def test_pieces_are_those_of_the_new_text(self):
        for i, n, put in ((0, 0, "("), (2, 1, ")"), (3, 4, ""), (7, 0, " x"), (0, 7, "q")):
            row = "ab (c) d"
            new = row[:i] + put + row[i + n:]
            self.assertEqual(cut(*WORDS, text(codes(row)), edit(i, n, codes(put))), cut(*WORDS, text(codes(new))))


class Counts(unittest.TestCase):
    def test_in_the_middle(self):
        # ab _ cd _ ef: behind it, ab _ cxd _ ef.
        self.assertEqual(told("ab cd ef", 4, 0, "x"), [5, 0, 2, 2])
        self.assertEqual(told("ab cd ef", 3, 2, ""), [3, 0, 1, 1])
        self.assertEqual(told("ab cd ef", 4, 1, ""), [5, 0, 2, 2])

    def test_at_the_beginning(self):
        self.assertEqual(told("ab cd", 0, 0, "x"), [3, 0, 0, 2])
        self.assertEqual(told("ab cd", 0, 0, "x "), [5, 0, 0, 3])
        # cd stands where ab stood, with its kind and length: that is as before.
        self.assertEqual(told("ab cd", 0, 3, ""), [1, 0, 1, 0])
        self.assertEqual(told("ab cde", 0, 3, ""), [1, 0, 0, 1])

    def test_at_the_end(self):
        self.assertEqual(told("ab cd", 5, 0, "x"), [3, 0, 2, 0])
        self.assertEqual(told("ab cd", 5, 0, " x"), [5, 0, 3, 0])
        self.assertEqual(told("ab cd", 2, 3, ""), [1, 0, 1, 0])

    def test_nothing_taken_out_and_nothing_put_in(self):
        for i in range(6):
            self.assertEqual(told("ab cd", i, 0, ""), [3, 0, 3, 0])

    def test_everything_taken_out(self):
        self.assertEqual(told("ab cd", 0, 5, ""), [0, 0, 0, 0])
        self.assertEqual(told("ab cd", 0, 5, "=="), [2, 2, 0, 0])
        self.assertEqual(told("", 0, 0, ""), [0, 0, 0, 0])
        self.assertEqual(told("", 0, 0, "a b"), [3, 0, 0, 0])

    def test_other_bytes_of_the_same_kind_are_as_before(self):
        self.assertEqual(told("ab cd", 0, 2, "xy"), [3, 0, 3, 0])
        self.assertEqual(told("ab cd", 3, 2, "xy"), [3, 0, 3, 0])

    def test_another_kind_is_not_as_before(self):
        self.assertEqual(told("a a a", 2, 1, "="), [5, 1, 2, 2])

    def test_odd_pieces_count_as_others_do(self):
        self.assertEqual(told("a==a", 0, 1, "b c"), [6, 2, 1, 3])
        self.assertEqual(told("==", 1, 0, "="), [3, 3, 2, 0])

    def test_none_counted_twice_in_the_text_before(self):
        # All pieces before are as at the beginning: none is left for the end.
        self.assertEqual(told("===", 3, 0, "=="), [5, 5, 3, 0])
        self.assertEqual(told("===", 0, 0, "=="), [5, 5, 3, 0])
        self.assertEqual(told("a=a=a", 2, 0, "a="), [7, 3, 5, 0])

    def test_none_counted_twice_in_this_text(self):
        self.assertEqual(told("=====", 0, 2, ""), [3, 3, 3, 0])
        self.assertEqual(told("a=a=a", 1, 2, ""), [3, 1, 3, 0])
        self.assertEqual(told("a=a a", 1, 2, ""), [3, 0, 1, 2])

    def test_the_same_place_but_another_length(self):
        self.assertEqual(told("ab c", 1, 1, ""), [3, 0, 0, 2])

    def test_the_modes_ahead_must_be_the_same(self):
        # What follows is of mode 1 then, and nothing more.
        self.assertEqual(told("a b", 0, 0, "("), [2, 0, 0, 0])
        self.assertEqual(told("(a(b)c)", 2, 1, ""), [5, 1, 1, 0])

    def test_all_modes_count_not_just_the_innermost(self):
        # The kinds and lengths and innermost modes at the end are the same; below them is one mode more.
        self.assertEqual(told("((a", 0, 1, ""), [2, 0, 1, 0])
        self.assertEqual(told("(a", 0, 0, "("), [3, 0, 1, 0])
        self.assertEqual(told("(a)(b", 2, 1, ""), [4, 0, 2, 0])

    def test_all_modes_count_at_the_beginning(self):
        # a goes over to what ( opens, b opens it: behind the same place and length other modes are open.
        rules = [begin(2), rule(0, 1, 3, 1, one("a")), rule(0, 1, 1, 1, one("b")), rule(1, 2, 0, 0, one("c"))]
        self.assertEqual(last(*rules, text(codes("acc")), edit(0, 1, codes("b"))), [3, 0, 1, 0])
        self.assertEqual(last(*rules, text(codes("acc")), edit(0, 1, codes("a"))), [3, 0, 3, 0])

    def test_as_far_from_the_end(self):
        # The last two pieces are of the same kind and length, but further on from the end.
        rules = [rule(0, 1, 0, 0, word("ab")), rule(0, 1, 0, 0, one("b")), rule(0, 1, 0, 0, one("a"))]
        self.assertEqual(last(*rules, text(codes("bab")), edit(1, 1, [])), [2, 0, 1, 0])

    def test_how_far_one_looked_does_not_count(self):
        rules = [rule(0, 1, 0, 0, one("a")), rule(0, 1, 0, 0, seq(one("a"), star(one("b")), one("c"))),
                 rule(0, 1, 0, 0, one("b"))]
        self.assertEqual(last(*rules, text(codes("ab")), edit(2, 0, codes("b"))), [3, 0, 2, 0])

    def test_one_after_another_till_one_is_not(self):
        # The first piece is another; those behind it stand where they stood, and count at the end alone.
        self.assertEqual(told("a=b", 0, 1, "="), [3, 2, 0, 2])
        self.assertEqual(told("a=b", 2, 1, "="), [3, 2, 2, 0])


class Edges(unittest.TestCase):
    def edits(self, *rest):
        return ask(text(codes("abc")), *[edit(*told) for told in rest])[1:]

    def test_i_and_n_just_within_and_just_beyond(self):
        self.assertEqual(self.edits((3, 0, [])), [[3, 3, 3, 0]])
        self.assertEqual(self.edits((4, 0, [])), [[-1]])
        self.assertEqual(self.edits((2, 1, [])), [[2, 2, 2, 0]])
        self.assertEqual(self.edits((2, 2, [])), [[-1]])
        self.assertEqual(self.edits((3, 1, [])), [[-1]])
        self.assertEqual(self.edits((0, 3, [])), [[0, 0, 0, 0]])
        self.assertEqual(self.edits((0, 4, [])), [[-1]])

    def test_large_numbers(self):
        for i, n in ((TOP, 0), (0, TOP), (TOP, TOP), (TOP, 1), (1, TOP), (2 ** 63, 2 ** 63), (2 ** 32, 0)):
            self.assertEqual(self.edits((i, n, [])), [[-1]])

    def test_200_bytes_and_201(self):
        full = [7] * 200
        self.assertEqual(last(text(full), edit(200, 0, [])), [200, 200, 200, 0])
        self.assertEqual(last(text(full), edit(100, 0, [1])), [-1])
        self.assertEqual(last(text(full), edit(100, 1, [1])), [200, 200, 200, 0])
        self.assertEqual(last(text(full), edit(100, 1, [1, 2])), [-1])
        self.assertEqual(last(text(full), edit(0, 200, full)), [200, 200, 200, 0])
        self.assertEqual(last(text(full), edit(0, 200, full + [1])), [-1])
        self.assertEqual(last(text(full[1:]), edit(199, 0, [1])), [200, 200, 199, 0])
        self.assertEqual(last(edit(0, 0, full)), [200, 200, 0, 0])
        self.assertEqual(last(edit(0, 0, full + [7])), [-1])
        self.assertEqual(last(edit(0, 0, [7] * 1024)), [-1])

    def test_bytes_above_255(self):
        self.assertEqual(self.edits((0, 0, [255])), [[4, 4, 3, 0]])
        for row in ([256], [TOP], [0, 256], [256, 0]):
            self.assertEqual(self.edits((0, 0, row)), [[-1]])

    def test_all_is_as_it_was_behind_a_refusal(self):
        for wrong in (edit(4, 0, []), edit(0, 4, []), edit(0, 0, [256]), edit(0, 1, [1] * 199), edit(TOP, TOP, [])):
            made = WORDS + [text(codes("a (")), wrong, pieces(), edit(3, 0, codes("=")), pieces()]
            right = WORDS + [text(codes("a (")), pieces(), edit(3, 0, codes("=")), pieces()]
            self.assertEqual(ask(*made)[-4:], [[-1]] + ask(*right)[-3:])


if __name__ == "__main__":
    unittest.main()
