"""What at tells of a byte's piece, and what words tells of a text."""

import unittest

from support import ANY, TOP, ask, at, begin, codes, edit, last, longest, none_of, one, pieces, plus, rule, span
from support import text, tight, word, words

PLAIN = [rule(0, 1, 0, 0, plus(span(97, 122))), rule(0, 2, 0, 0, plus(span(48, 57))), rule(0, 64, 0, 0, plus(one(" ")))]

# A bracket of each sort opens a mode of its own; in each of them all brackets, letters and ends are known.
NESTED = [begin(4)] + [told for mode in range(4) for told in (
    rule(mode, 1, 1, 1, one("(")), rule(mode, 2, 1, 2, one("[")), rule(mode, 3, 1, 3, one("{")),
    rule(mode, 64, 2, 0, one(")]}")), rule(mode, 10 + mode, 0, 0, plus(span(97, 122))))]


class At(unittest.TestCase):
    def test_each_byte_of_a_text(self):
        wanted = [[0, 1, 0, 2, 0, 3, 0]] * 2 + [[1, 64, 2, 1, 0, 4, 0]] + [[2, 2, 3, 2, 0, 6, 0]] * 2
        self.assertEqual(ask(*PLAIN, text(codes("ab 12")), *[at(i) for i in range(5)])[-5:], wanted)

    def test_one_byte_a_piece(self):
        told = ask(rule(0, 7, 0, 0, ANY), text([5] * 200), at(0), at(1), at(198), at(199), at(200))
        self.assertEqual(told[2:], [[0, 7, 0, 1, 0, 1, 0], [1, 7, 1, 1, 0, 2, 0], [198, 7, 198, 1, 0, 199, 0],
                                    [199, 7, 199, 1, 0, 200, 0], [-2]])

    def test_one_piece_of_200_bytes(self):
        told = ask(rule(0, 7, 0, 0, plus(ANY)), text([5] * 200), at(0), at(100), at(199), at(200))
        self.assertEqual(told[2:], [[0, 7, 0, 200, 0, 201, 0]] * 3 + [[-2]])

    def test_no_such_byte(self):
        for row in ("", "a", "ab 12"):
            for i in (len(row), len(row) + 1, 200, 201, 255, 256, 2 ** 32, 2 ** 63, TOP):
                self.assertEqual(last(*PLAIN, text(codes(row)), at(i)), [-2])

    def test_no_text_yet_and_no_text_any_more(self):
        self.assertEqual(ask(at(0), text([1]), at(0), rule(0, 1, 0, 0, ANY), at(0), text([1]), at(0), begin(1), at(0)),
                         [[-2], [1, 1], [0, 65, 0, 1, 0, 1, 0], [0], [-2], [1, 0], [0, 1, 0, 1, 0, 1, 0], [0], [-2]])

    def test_odd_pieces_and_pieces_of_nothing(self):
        told = ask(*PLAIN, text(codes("a =")), at(0), at(1), at(2))
        self.assertEqual(told[-3:], [[0, 1, 0, 1, 0, 2, 0], [1, 64, 1, 1, 0, 3, 0], [2, 65, 2, 1, 0, 3, 0]])

    def test_how_far_one_looked_is_of_all_ahead(self):
        rules = [rule(0, 1, 0, 0, one("a")), rule(0, 2, 0, 0, word("abcd")), rule(0, 3, 0, 0, span(98, 122))]
        self.assertEqual(ask(*rules, text(codes("abcx")), at(0), at(2), at(3))[-3:],
                         [[0, 1, 0, 1, 0, 4, 0], [2, 3, 2, 1, 0, 4, 0], [3, 3, 3, 1, 0, 4, 0]])

    def test_the_innermost_mode_first(self):
        row = "a([{b}]c)d"
        told = ask(*NESTED, text(codes(row)), *[at(i) for i in range(len(row))])[-len(row):]
        self.assertEqual([answer[6:] for answer in told],
                         [[0], [0], [1, 0], [2, 1, 0], [3, 2, 1, 0], [3, 2, 1, 0], [2, 1, 0], [1, 0], [1, 0], [0]])
        self.assertEqual([answer[:6] for answer in told[4:8]],
                         [[4, 13, 4, 1, 3, 6], [5, 64, 5, 1, 3, 6], [6, 64, 6, 1, 2, 7], [7, 11, 7, 1, 1, 9]])

    def test_modes_ahead_of_the_piece_not_behind_it(self):
        self.assertEqual(ask(*NESTED, text(codes("[")), at(0))[-1], [0, 2, 0, 1, 0, 1, 0])
        self.assertEqual(ask(*NESTED, text(codes("[]")), at(1))[-1], [1, 64, 1, 1, 2, 2, 2, 0])

    def test_a_mode_that_was_gone_over_to(self):
        rules = [begin(3), rule(0, 1, 1, 1, one("a")), rule(1, 2, 3, 2, one("b")), rule(2, 3, 0, 0, ANY)]
        told = ask(*rules, text(codes("abc")), at(0), at(1), at(2))
        self.assertEqual([answer[6:] for answer in told[-3:]], [[0], [1, 0], [2, 0]])

    def test_16_open_modes(self):
        told = ask(*NESTED, text(codes("([{" * 6)), at(14), at(15), at(16))
        deep = [0] + [1, 2, 3] * 5
        self.assertEqual(told[-3], [14, 3, 14, 1, 2, 15] + deep[14::-1])
        self.assertEqual(told[-2], [15, 65, 15, 1, 3, 16] + deep[::-1])
        self.assertEqual(told[-1], [16, 65, 16, 1, 3, 17] + deep[::-1])

    def test_the_same_as_pieces_tells(self):
        row = codes("a(b[cd]{e})f]")
        told = ask(*NESTED, text(row), pieces(), *[at(i) for i in range(len(row))])[-len(row) - 1:]
        listed = told[0][1:]
        for i, answer in enumerate(told[1:]):
            self.assertEqual(answer[1:6], listed[5 * answer[0]:5 * answer[0] + 5])
            self.assertTrue(answer[2] <= i < answer[2] + answer[3])
            self.assertEqual(answer[4], answer[6])
            self.assertEqual(answer[-1], 0)

    def test_behind_an_edit(self):
        told = ask(*NESTED, text(codes("(a)")), edit(0, 1, codes("[{")), at(2), at(3), at(4))
        self.assertEqual(told[-3:], [[2, 13, 2, 1, 3, 4, 3, 2, 0], [3, 64, 3, 1, 3, 4, 3, 2, 0], [-2]])


class Words(unittest.TestCase):
    def test_all_but_nothing(self):
        self.assertEqual(last(*PLAIN, text(codes("ab 12  cd")), words()), [3, 1, 2, 1])

    def test_odd_pieces_are_words(self):
        self.assertEqual(last(*PLAIN, text(codes("a= =")), words()), [3, 1, 65, 65])
        self.assertEqual(last(text([0, 1]), words()), [2, 65, 65])

    def test_nothing_that_cannot_be_done_is_odd_and_so_a_word(self):
        self.assertEqual(last(rule(0, 64, 2, 0, ANY), text([1]), words()), [1, 65])

    def test_no_word(self):
        self.assertEqual(ask(words()), [[0]])
        self.assertEqual(last(*PLAIN, text([]), words()), [0])
        self.assertEqual(last(*PLAIN, text(codes("   ")), words()), [0])

    def test_no_text_any_more(self):
        told = ask(text([1]), words(), rule(0, 1, 0, 0, ANY), words(), text([1]), words(), begin(1), words())
        self.assertEqual(told[1::2], [[1, 65], [0], [1, 1], [0]])

    def test_one_and_200(self):
        self.assertEqual(last(*PLAIN, text(codes("abc")), words()), [1, 1])
        self.assertEqual(last(rule(0, 0, 0, 0, ANY), text([3] * 200), words()), [200] + [0] * 200)

    def test_kinds_63_and_64(self):
        rules = [rule(0, 63, 0, 0, one("a")), rule(0, 64, 0, 0, one("b")), rule(0, 0, 0, 0, one("c"))]
        self.assertEqual(last(*rules, text(codes("abc")), words()), [2, 63, 0])

    def test_words_of_all_modes(self):
        self.assertEqual(last(*NESTED, text(codes("a(b[c])d")), words()), [6, 10, 1, 11, 2, 12, 10])

    def test_behind_an_edit(self):
        self.assertEqual(last(*PLAIN, text(codes("ab 12")), edit(1, 0, codes("1 =")), words()), [5, 1, 2, 65, 1, 2])


class NothingChanges(unittest.TestCase):
    ASKED = [at(0), at(3), at(9), at(200), words(), longest(0, codes("((")), longest(99, []), longest(0, [256]),
             tight(codes(" ")), tight([]), tight([256]), tight([7] * 201)]

    def check(self, made, row):
        """What is asked ahead changes nothing of what is answered behind, whichever of the rest comes first."""
        behind = [[pieces()], [words()], [at(2)], [tight(codes(" "))], [edit(1, 1, codes("b")), pieces()],
                  [longest(1, codes("ab"))], [rule(0, 1, 0, 0, none_of("(")), pieces(), text(row), pieces()],
                  [text(row + row), pieces()], [rule(1, 1, 0, 0, ANY), rule(7, 1, 0, 0, ANY)]]
        for calls in behind:
            wanted = ask(*made, text(row), *calls)[-len(calls):]
            for asked in self.ASKED + [[number for call in self.ASKED for number in call]]:
                told = ask(*made, text(row), *([asked] if asked in self.ASKED else self.ASKED), *calls)
                self.assertEqual(told[-len(calls):], wanted)

    def test_text_rules_and_modes_stay(self):
        self.check(NESTED, codes("a(b)"))
        # With 9 words, with 10, and with an odd piece, so that tight answers each way it can.
        self.check(PLAIN, codes("a b c d e f g h i"))
        self.check(PLAIN, codes("a b c d e f g h i j"))
        self.check(PLAIN, codes("a == b"))
        # No way: what the bracket opens isn't open in what's written.
        self.check([begin(2), rule(0, 64, 1, 1, one("(")), rule(1, 1, 0, 0, ANY)], codes("(abcd"))
        self.check([], [])

    def test_asked_again_the_same_is_answered(self):
        calls = [at(1), words(), longest(4, codes("abc")), tight(codes(" "))]
        told = ask(*NESTED, text(codes("(a)b")), *calls * 3)[-12:]
        self.assertEqual(told[:4] * 3, told)
        self.assertEqual(told[:4], [[1, 11, 1, 1, 1, 3, 1, 0], [3, 1, 11, 10], [3], [-2]])


if __name__ == "__main__":
    unittest.main()
