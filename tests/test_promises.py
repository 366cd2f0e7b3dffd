"""The promises, and the whole document, over many houses made up by number."""

import unittest
from itertools import combinations

from support import ANY, NOTHING, TOP, Chance, PlainHouse, ask, at, begin, codes, cut, edit, five, in_fives, longest
from support import pieces, plain_cut, plain_edit, plain_scan, plain_tight, put_together, rule, text, tight, tree_of
from support import words

HOUSES = 300


def make_house(seed):
    """A house's rules and a text: modes, rules as told, the calls that make it, the bytes."""
    chance = Chance(seed)
    letters = codes("abc") if seed % 3 else [0, 1, 97, 254, 255]
    modes = 1 + chance.below(3 if seed % 7 else 8)
    rules = [chance.rule(modes, letters) for _ in range(chance.below(8 if seed % 5 else 25))]
    calls = [begin(modes)] + [rule(*told) for told in rules]
    return chance, letters, rules, calls, chance.row(30 if seed % 11 else 200, letters)


def make_reader(seed):
    """A house with hardly an odd piece: the calls that make it, its rules as told, a text, separators."""
    chance = Chance(seed)
    modes = 1 + chance.below(3)
    rules = chance.reader(modes)
    row = [byte for letter in chance.row(8 if seed % 4 else 12, codes("ab")) for byte in [letter] + chance.row(1, [32])]
    separators = [[32], chance.row(3, codes("ab ")), chance.row(3, codes("ab "))]
    return [begin(modes)] + [rule(*told) for told in rules], rules, row, separators


def make_call(chance, letters):
    """A call of any sort, now and then one that is refused."""
    wrong = chance.below(10) == 0
    row = chance.row(201, letters + [256]) if wrong else chance.row(10, letters)
    number = chance.pick([200, 24, TOP]) if wrong else chance.below(8)
    made = [text(row), text(row), text(row), pieces(), edit(number, chance.below(3), row[:4]), at(number), at(number),
            words(), longest(number, row), longest(number % 3, row), tight(row if wrong else row[:3]), tight([32]),
            tight([32]), tight([])]
    if chance.below(12) == 0:
        return chance.pick([make_rule(chance, letters, wrong)] * 3 + [begin(number if wrong else 2)])
    return chance.pick(made)


def make_rule(chance, letters, wrong):
    if not wrong:
        return rule(*chance.rule(2, letters))
    told = chance.pick([(0, 1), (2, 1), (TOP, 1), (0, 65), (0, TOP), (1, 64)])
    told += chance.pick([(0, 0), (4, 0), (TOP, 0), (0, 8), (3, 1)])
    return rule(*told, chance.pick([ANY, NOTHING, [], [9], [3, 0], [0, 0], [5] * 41 + [0], [1, 0], [8, 2, 1]]))


class AgainstAPlainReading(unittest.TestCase):
    def test_text_and_pieces(self):
        for seed in range(HOUSES):
            chance, letters, rules, calls, row = make_house(seed)
            told = ask(*calls, text(row), pieces())
            plain = plain_cut(rules, row)
            self.assertEqual(in_fives(told[-1]), [five(piece) for piece in plain], seed)
            self.assertEqual(told[-2], [len(plain), len([piece for piece in plain if piece[0] == 65])], seed)

    def test_edit(self):
        for seed in range(HOUSES):
            chance, letters, rules, calls, row = make_house(seed)
            calls.append(text(row))
            wanted = []
            for _ in range(12):
                i = chance.below(len(row) + 1)
                n = chance.below(min(4, len(row) - i + 1))
                put = chance.row(3, letters)
                new_row = row[:i] + put + row[i + n:]
                calls.append(edit(i, n, put))
                if len(new_row) > 200:
                    wanted.append([-1])
                    continue
                wanted.append(plain_edit(rules, row, new_row))
                row = new_row
            told = ask(*calls, pieces())
            self.assertEqual(told[-13:-1], wanted, seed)
            self.assertEqual(in_fives(told[-1]), [five(piece) for piece in plain_cut(rules, row)], seed)


    def test_at_words_and_longest(self):
        for seed in range(HOUSES // 2):
            chance, letters, rules, calls, row = make_house(seed)
            row = row[:30]
            house = PlainHouse()
            asked = calls[:25] + [text(row), words()] + [at(chance.below(len(row) + 1)) for _ in range(16)]
            asked += [longest(chance.below(len(rules) + 1), chance.row(9, letters)) for _ in range(16)]
            self.assertEqual(ask(*asked), [house.answer(call) for call in asked], seed)

    def test_tight(self):
        for seed in range(2 * HOUSES):
            calls, rules, row, separators = make_reader(seed)
            told = ask(*calls, text(row), *[tight(separator) for separator in separators])
            wanted = [plain_tight(rules, row, separator) for separator in separators]
            self.assertEqual(told[-3:], wanted, seed)

    def test_calls_in_any_order(self):
        for seed in range(2 * HOUSES):
            chance = Chance(seed)
            letters = codes("ab (")
            calls = [begin(2)] + [rule(*told) for told in chance.reader(2)] if seed % 4 else []
            calls += [make_call(chance, letters) for _ in range(60 - len(calls))]
            house = PlainHouse()
            self.assertEqual(ask(*calls), [house.answer(call) for call in calls], seed)


class Promises(unittest.TestCase):
    def test_1_pieces_together_are_the_text(self):
        for seed in range(HOUSES):
            chance, letters, rules, calls, row = make_house(seed)
            place = 0
            for piece in cut(*calls, text(row)):
                self.assertEqual(piece[1], place, seed)
                self.assertGreater(piece[2], 0, seed)
                place += piece[2]
            self.assertEqual(place, len(row), seed)

    def test_2_no_rule_matches_more_and_no_earlier_one_as_much(self):
        for seed in range(HOUSES):
            chance, letters, rules, calls, row = make_house(seed)
            for kind, place, length, mode, far in cut(*calls, text(row)):
                held = [told for told in rules if told[0] == mode]
                sizes = [plain_scan(tree_of(told[4]), row, place)[0] for told in held]
                self.assertLessEqual(max(sizes, default=0), length, seed)
                if length in sizes and kind != 65:
                    self.assertEqual(held[sizes.index(length)][1], kind, seed)

    def test_2_as_longest_tells(self):
        for seed in range(HOUSES // 3):
            calls, rules, row, separators = make_reader(seed)
            for kind, place, length, mode, far in cut(*calls, text(row)):
                held = [number for number, told in enumerate(rules) if told[0] == mode]
                told = ask(*calls, *[longest(number, row[place:]) for number in held])
                sizes = [answer[0] for answer in told[len(calls):]]
                self.assertEqual(max(sizes), length, seed)
                if kind != 65:
                    self.assertEqual(rules[held[sizes.index(length)]][1], kind, seed)

    def test_3_a_piece_stays_whatever_comes_from_its_number_on(self):
        for seed in range(HOUSES):
            chance, letters, rules, calls, row = make_house(seed)
            for number, piece in enumerate(cut(*calls, text(row))):
                # One more than the text has: its end was looked at, and nothing may change.
                if piece[4] > len(row):
                    continue
                for tail in ([], chance.row(5, letters), chance.row(5, [0, 97, 98, 255])):
                    again = cut(*calls, text(row[:piece[4]] + tail))
                    self.assertEqual(again[number], piece, seed)

    def test_3_with_all_its_modes(self):
        for seed in range(HOUSES):
            chance, letters, rules, calls, row = make_house(seed)
            if not row:
                continue
            i = chance.below(len(row))
            piece = ask(*calls, text(row), at(i))[-1]
            tail = chance.row(5, letters)
            if piece[5] <= len(row):
                self.assertEqual(ask(*calls, text((row[:piece[5]] + tail)[:200]), at(i))[-1], piece, seed)

    def test_4_the_words_are_the_same_and_no_fewer_separators_do(self):
        ways = {}
        for seed in range(HOUSES):
            calls, rules, row, separators = make_reader(seed)
            found = words_told(calls, row)
            for separator in separators:
                answer = ask(*calls, text(row), tight(separator))[-1]
                ways[answer[0]] = ways.get(answer[0], 0) + 1
                if answer[0] >= 0:
                    self.assertEqual(words_told(calls, answer[1:]), found, seed)
                # With no way, no number of separators does.
                bound = {-3: 0, -5: 0, -2: len(found)}.get(answer[0], answer[0])
                for many in range(bound):
                    for places in combinations(range(1, len(found)), many):
                        self.assertNotEqual(words_told(calls, put_together(found, places, separator)), found, seed)
        # All that may be answered was.
        self.assertTrue({-5, -3, -2, 0, 1, 2, 3} <= set(ways), ways)

    def test_5_the_same_behind_the_same_modes_and_bytes(self):
        for seed in range(HOUSES):
            chance, letters, rules, calls, row = make_house(seed)
            other = chance.row(6, letters) + row[chance.below(len(row) + 1):]
            left = [(piece[1], piece[3]) for piece in plain_cut(rules, row)]
            right = [(piece[1], piece[3]) for piece in plain_cut(rules, other)]
            first = cut(*calls, text(row))
            second = cut(*calls, text(other))
            for i, (place, modes) in enumerate(left):
                for j, (spot, held) in enumerate(right):
                    if modes == held and row[place:] == other[spot:]:
                        here = [(kind, start - place, size, mode) for kind, start, size, mode, far in first[i:]]
                        there = [(kind, start - spot, size, mode) for kind, start, size, mode, far in second[j:]]
                        self.assertEqual(here, there, seed)

    def test_5_with_the_modes_that_at_tells(self):
        met = 0
        for seed in range(HOUSES // 3):
            calls, rules, row, separators = make_reader(seed)
            other = separators[1] + row[len(row) // 3:]
            left, right = all_told(calls, row), all_told(calls, other)
            for i, here in enumerate(left):
                for j, there in enumerate(right):
                    if here[2][1] == there[2][1] and row[here[1]:] == other[there[1]:]:
                        met += 1
                        self.assertEqual([piece[::2] for piece in left[i:]], [piece[::2] for piece in right[j:]], seed)
        self.assertGreater(met, 100)


def words_told(calls, row):
    """The words of a row, as the program tells them: kind, mode, bytes."""
    return [(kind, mode, row[place:place + length]) for kind, place, length, mode, far in cut(*calls, text(row))
            if kind != 64]


def all_told(calls, row):
    """Of each piece its kind, its place, and its length with all modes that are open ahead of it."""
    found = cut(*calls, text(row))
    told = ask(*calls, text(row), *[at(piece[1]) for piece in found])[-len(found):] if found else []
    return [(answer[1], answer[2], (answer[3], tuple(answer[6:]))) for answer in told]


if __name__ == "__main__":
    unittest.main()
