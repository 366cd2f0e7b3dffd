"""The list of calls, the answers to them, refusals, and what is kept."""

import unittest

import modedpieces.house
from support import ANY, NOTHING, TOP, ask, at, begin, codes, edit, last, longest, one, pieces, plus, rule, span
from support import text, tight, words

RULES = [begin(2), rule(0, 1, 1, 1, one("(")), rule(1, 2, 2, 0, one(")"))]
STATE = [pieces(), rule(1, 3, 0, 0, ANY), text(codes("(a)")), pieces()]


class Answers(unittest.TestCase):
    def test_the_list_as_it_stands(self):
        calls = [1, 2, 2, 0, 5, 0, 1, 3, 1, 1, 97, 3, 2, 97, 98, 4, 5, 1, 1, 1, 97, 4, 1, 9]
        self.assertEqual(modedpieces.house.answers(calls),
                         [1, 0, 1, 0, 2, 2, 1, 11, 2, 5, 0, 1, 0, 1, 65, 1, 1, 0, 2, 4, 2, 0, 1, 0,
                          11, 2, 5, 0, 1, 0, 1, 5, 1, 1, 0, 2, 1, -1])

    def test_the_list_of_the_calls_that_only_ask(self):
        calls = [2, 0, 5, 0, 0, 4, 6, 8, 97, 122, 3, 3, 97, 98, 99, 6, 1, 7, 8, 0, 3, 97, 32, 98, 9, 1, 32, 6, 3,
                 8, 0, 1, 32, 8, 1, 0, 9, 1, 300]
        self.assertEqual(modedpieces.house.answers(calls),
                         [1, 0, 2, 1, 0, 7, 0, 5, 0, 3, 0, 4, 0, 2, 1, 5, 1, 1, 4, 0, 97, 98, 99, 1, -2,
                          1, -3, 1, -2, 1, -1])

    def test_a_house_of_nothing_that_is_asked(self):
        self.assertEqual(modedpieces.house.answers([6, 0, 7, 8, 0, 0, 9, 0, 4]), [1, -2, 1, 0, 1, -2, 1, 0, 1, 0])

    def test_rows_of_no_number(self):
        self.assertEqual(modedpieces.house.answers([2, 0, 0, 0, 0, 0, 3, 0, 5, 0, 0, 0]), [1, -3, 2, 0, 0, 4, 0, 0, 0, 0])

    def test_one_call(self):
        self.assertEqual(modedpieces.house.answers([4]), [1, 0])
        self.assertEqual(modedpieces.house.answers([1, 8]), [1, 0])

    def test_60_calls(self):
        told = ask(*[text([7] * 200), pieces()] * 30)
        self.assertEqual(told[-2], [200, 200])
        self.assertEqual(len(told[-1]), 1001)

    def test_what_is_handed_in_stays_as_it_was(self):
        calls = [number for call in RULES + STATE + [edit(1, 1, codes("bc")), pieces(), at(1), words(),
                                                    longest(0, codes("((")), tight(codes(" ")), begin(3), text([256])]
                 for number in call]
        before = list(calls)
        modedpieces.house.answers(calls)
        self.assertEqual(calls, before)

    def test_what_is_given_back_is_the_callers_own(self):
        calls = [3, 1, 7, 4]
        told = modedpieces.house.answers(calls)
        told.append(9)
        calls.append(4)
        self.assertEqual(modedpieces.house.answers([3, 1, 7, 4]), [2, 1, 1, 6, 1, 65, 0, 1, 0, 1])

    def test_a_second_time_is_as_the_first(self):
        first = ask(*RULES, *STATE, at(1), words(), longest(1, codes(")")), tight([]))
        self.assertEqual(ask(*RULES, *STATE, at(1), words(), longest(1, codes(")")), tight([])), first)
        self.assertEqual(ask(pieces(), text([40]), rule(0, 0, 0, 0, ANY)), [[0], [1, 1], [0]])
        # One mode is there at the beginning, not those of the time before.
        self.assertEqual(ask(rule(1, 0, 0, 0, ANY)), [[-1]])


class Begin(unittest.TestCase):
    def test_modes(self):
        for modes in range(1, 9):
            self.assertEqual(ask(begin(modes), rule(modes - 1, 0, 0, 0, ANY), rule(modes, 0, 0, 0, ANY)),
                             [[0], [0], [-1]])

    def test_not_1_to_8(self):
        for modes in (0, 9, 256, 2 ** 32 + 1, 2 ** 63, TOP):
            self.assertEqual(last(begin(modes)), [-1])

    def test_one_mode_at_the_beginning(self):
        self.assertEqual(ask(rule(0, 0, 0, 0, ANY), rule(1, 0, 0, 0, ANY), rule(0, 0, 0, 1, ANY)), [[0], [-1], [-1]])

    def test_it_may_come_again(self):
        told = ask(*RULES, text(codes("(")), begin(1), pieces(), text(codes("(")), pieces(), rule(1, 0, 0, 0, ANY),
                   rule(0, 9, 0, 0, ANY), begin(2), rule(1, 0, 0, 0, ANY))
        self.assertEqual(told[3:], [[1, 0], [0], [0], [1, 1], [1, 65, 0, 1, 0, 1], [-1], [0], [0], [0]])

    def test_a_refused_one_changes_nothing(self):
        for modes in (0, 9, TOP):
            told = ask(*RULES, text(codes("()")), begin(modes), *STATE)
            self.assertEqual(told[-4:], ask(*RULES, text(codes("()")), *STATE)[-4:])


class Rule(unittest.TestCase):
    def test_numbers_in_their_order(self):
        self.assertEqual(ask(*[rule(0, 0, 0, 0, ANY)] * 3, begin(1), rule(0, 0, 0, 0, ANY)), [[0], [1], [2], [0], [0]])

    def test_no_such_mode(self):
        for mode in (2, 3, 8, 256, 2 ** 63, TOP):
            for does in range(4):
                self.assertEqual(ask(begin(2), rule(mode, 0, does, 0, ANY), rule(0, 0, does, mode, ANY)),
                                 [[0], [-1], [-1]])

    def test_the_kind(self):
        for kind, wanted in ((0, 0), (63, 0), (64, 0), (65, -1), (66, -1), (2 ** 32, -1), (TOP, -1)):
            self.assertEqual(last(rule(0, kind, 0, 0, ANY)), [wanted])

    def test_what_it_does(self):
        for does, wanted in ((0, 0), (1, 0), (2, 0), (3, 0), (4, -1), (5, -1), (2 ** 32, -1), (TOP, -1)):
            self.assertEqual(last(rule(0, 0, does, 0, ANY)), [wanted])

    def test_the_text_is_gone(self):
        self.assertEqual(ask(text(codes("ab")), rule(0, 0, 0, 0, ANY), pieces(), edit(0, 1, []), edit(0, 0, [1])),
                         [[2, 2], [0], [0], [-1], [1, 0, 0, 0]])

    def test_24_at_the_most(self):
        told = ask(*[rule(0, 0, 0, 0, ANY)] * 26, begin(1), rule(0, 0, 0, 0, ANY))
        self.assertEqual(told[22:], [[22], [23], [-5], [-5], [0], [0]])

    def test_of_several_refusals_the_one_told_first(self):
        full = [rule(0, 0, 0, 0, ANY)] * 24
        self.assertEqual(last(rule(1, 0, 0, 0, [])), [-1])
        self.assertEqual(last(rule(0, 0, 0, 1, [9])), [-1])
        self.assertEqual(last(rule(0, 65, 0, 0, [0, 0])), [-1])
        self.assertEqual(last(rule(0, 0, 4, 0, [1, 0])), [-1])
        self.assertEqual(last(*full, rule(1, 0, 0, 0, ANY)), [-1])
        self.assertEqual(last(*full, rule(0, 65, 0, 0, [])), [-1])
        self.assertEqual(last(*full, rule(0, 0, 0, 0, [])), [-3])
        self.assertEqual(last(*full, rule(0, 0, 0, 0, [5] * 41 + [0])), [-3])
        self.assertEqual(last(*full, rule(0, 0, 0, 0, ANY)), [-5])

    def test_a_refused_one_changes_nothing(self):
        wrong = [rule(2, 0, 0, 0, ANY), rule(0, 0, 0, 2, ANY), rule(0, 65, 0, 0, ANY), rule(0, 0, 4, 0, ANY),
                 rule(0, 0, 0, 0, []), rule(0, 0, 0, 0, [5] * 41 + [0]), rule(0, 0, 0, 0, [3] + one("(") + [9])]
        plain = ask(*RULES, text(codes("(())")), *STATE)
        for call in wrong:
            self.assertEqual(ask(*RULES, text(codes("(())")), call, *STATE)[-4:], plain[-4:])

    def test_one_too_many_changes_nothing(self):
        full = [begin(2)] + [rule(0, 0, 1, 1, one("("))] * 24 + [text(codes("(("))]
        told = ask(*full, pieces(), rule(1, 0, 0, 0, ANY), pieces(), text(codes("((")), pieces())
        self.assertEqual(told[-4], [-5])
        self.assertEqual([told[-3], told[-1]], [told[-5]] * 2)


class Text(unittest.TestCase):
    def test_how_many_bytes(self):
        self.assertEqual(last(text([])), [0, 0])
        self.assertEqual(last(text([1] * 200)), [200, 200])
        self.assertEqual(last(text([1] * 201)), [-1])
        self.assertEqual(last(text([1] * 1024)), [-1])

    def test_bytes(self):
        self.assertEqual(last(text([0, 255])), [2, 2])
        for row in ([256], [0, 256], [256, 0], [2 ** 32], [TOP]):
            self.assertEqual(last(text(row)), [-1])

    def test_it_takes_the_place_of_the_one_before(self):
        named = rule(0, 1, 0, 0, plus(span(97, 122)))
        self.assertEqual(last(named, text(codes("abc=")), text(codes("de")), pieces()), [1, 1, 0, 2, 0, 3])
        self.assertEqual(last(named, text(codes("abc")), text([]), pieces()), [0])

    def test_the_modes_start_anew(self):
        self.assertEqual(ask(*RULES, text(codes("(")), text(codes(")")), pieces())[-2:], [[1, 1], [1, 65, 0, 1, 0, 1]])

    def test_a_refused_one_changes_nothing(self):
        for row in ([256], [1] * 201, [40] * 3 + [TOP]):
            told = ask(*RULES, text(codes("(()")), text(row), *STATE)
            self.assertEqual(told[-5:], [[-1]] + ask(*RULES, text(codes("(()")), *STATE)[-4:])


class ManyCalls(unittest.TestCase):
    def test_large_patterns_that_look_to_the_end(self):
        # Each a is looked at to the text's end for the c, with sets of steps that are never alike.
        far = [3] + [5] + ANY + [3] + one("a") + [3] + balanced(ANY, 256) + one("c")
        calls = [rule(0, 1, 0, 0, far)] * 8 + [rule(0, 2, 0, 0, ANY)]
        calls += [text([97 + (i * i // 7) % 2 for i in range(200)])] + [edit(i, 1, [98]) for i in range(3)]
        self.assertEqual(ask(*calls, pieces())[-1][:6], [200, 2, 0, 1, 0, 201])

    def test_patterns_that_match_nothing_are_rules_all_the_same(self):
        self.assertEqual(ask(rule(0, 1, 0, 0, NOTHING), rule(0, 1, 0, 0, ANY), text([3])), [[0], [1], [1, 0]])


def balanced(pattern, times):
    """A pattern so many times (a power of two), one behind another."""
    while times > 1:
        pattern = [3] + pattern + pattern
        times //= 2
    return pattern


if __name__ == "__main__":
    unittest.main()
