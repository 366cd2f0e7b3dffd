"""The promises, and the whole document, over many houses made up by number."""

import unittest

from support import Chance, begin, codes, cut, edit, five, in_fives, ask, pieces, plain_cut, plain_edit
from support import plain_scan, rule, text, tree_of

HOUSES = 300


def make_house(seed):
    """A house's rules and a text: modes, rules as told, the calls that make it, the bytes."""
    chance = Chance(seed)
    letters = codes("abc") if seed % 3 else [0, 1, 97, 254, 255]
    modes = 1 + chance.below(3 if seed % 7 else 8)
    rules = [chance.rule(modes, letters) for _ in range(chance.below(8 if seed % 5 else 25))]
    calls = [begin(modes)] + [rule(*told) for told in rules]
    return chance, letters, rules, calls, chance.row(30 if seed % 11 else 200, letters)


class AgainstAPlainReading(unittest.TestCase):
    def test_text_and_pieces(self):
        for seed in range(HOUSES):
            chance, letters, rules, calls, row = make_house(seed)
            told = ask(*calls, text(row), pieces())
            plain = plain_cut(rules, row)
            self.assertEqual(in_fives(told[-1]), [five(piece) for piece in plain], seed)
            self.assertEqual(told[-2], [len(plain), len([piece for piece in plain if piece[0] == 65])], seed)

    def test_edit(self):
        for seed in range(HOUSES):
            chance, letters, rules, calls, row = make_house(seed)
            calls.append(text(row))
            wanted = []
            for _ in range(12):
                i = chance.below(len(row) + 1)
                n = chance.below(min(4, len(row) - i + 1))
                put = chance.row(3, letters)
                new_row = row[:i] + put + row[i + n:]
                calls.append(edit(i, n, put))
                if len(new_row) > 200:
                    wanted.append([-1])
                    continue
                wanted.append(plain_edit(rules, row, new_row))
                row = new_row
            told = ask(*calls, pieces())
            self.assertEqual(told[-13:-1], wanted, seed)
            self.assertEqual(in_fives(told[-1]), [five(piece) for piece in plain_cut(rules, row)], seed)


class Promises(unittest.TestCase):
    def test_1_pieces_together_are_the_text(self):
        for seed in range(HOUSES):
            chance, letters, rules, calls, row = make_house(seed)
            place = 0
            for piece in cut(*calls, text(row)):
                self.assertEqual(piece[1], place, seed)
                self.assertGreater(piece[2], 0, seed)
                place += piece[2]
            self.assertEqual(place, len(row), seed)

    def test_2_no_rule_matches_more_and_no_earlier_one_as_much(self):
        for seed in range(HOUSES):
            chance, letters, rules, calls, row = make_house(seed)
            for kind, place, length, mode, far in cut(*calls, text(row)):
                held = [told for told in rules if told[0] == mode]
                sizes = [plain_scan(tree_of(told[4]), row, place)[0] for told in held]
                self.assertLessEqual(max(sizes, default=0), length, seed)
                if length in sizes and kind != 65:
                    self.assertEqual(held[sizes.index(length)][1], kind, seed)

    def test_3_a_piece_stays_whatever_comes_from_its_number_on(self):
        for seed in range(HOUSES):
            chance, letters, rules, calls, row = make_house(seed)
            for number, piece in enumerate(cut(*calls, text(row))):
                # One more than the text has: its end was looked at, and nothing may change.
                if piece[4] > len(row):
                    continue
                for tail in ([], chance.row(5, letters), chance.row(5, [0, 97, 98, 255])):
                    again = cut(*calls, text(row[:piece[4]] + tail))
                    self.assertEqual(again[number], piece, seed)

    def test_5_the_same_behind_the_same_modes_and_bytes(self):
        for seed in range(HOUSES):
            chance, letters, rules, calls, row = make_house(seed)
            other = chance.row(6, letters) + row[chance.below(len(row) + 1):]
            left = [(piece[1], piece[3]) for piece in plain_cut(rules, row)]
            right = [(piece[1], piece[3]) for piece in plain_cut(rules, other)]
            first = cut(*calls, text(row))
            second = cut(*calls, text(other))
            for i, (place, modes) in enumerate(left):
                for j, (spot, held) in enumerate(right):
                    if modes == held and row[place:] == other[spot:]:
                        here = [(kind, at - place, size, mode) for kind, at, size, mode, far in first[i:]]
                        there = [(kind, at - spot, size, mode) for kind, at, size, mode, far in second[j:]]
                        self.assertEqual(here, there, seed)


if __name__ == "__main__":
    unittest.main()
