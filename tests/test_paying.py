import random
import unittest
from fractions import Fraction

from quits.paying import got, is_clearing, paid, rounds
from tests.helper import (
    GREAT, as_part, fraction, full_sheet, got_by_hand, is_part, next_by_hand, owes_by_hand, paid_by_hand, some_sheet, whole_ring,
)

RANKED = [(0, 1, 0, 2), (0, 2, 0, 4), (0, 1, 1, 5), (0, 2, 2, 3), (0, 1, 2, 0), (1, 2, 1, 0)]


def some_lays(chance, many, sheet):
    lays = []
    for owed in owes_by_hand(many, sheet):
        share = chance.choice((Fraction(0), Fraction(1), Fraction(chance.randrange(100), 100), Fraction(1, 3)))
        lays.append(owed * share)
    return lays


class PaidTest(unittest.TestCase):
    def check(self, sheet, lays):
        handed = [as_part(lay) for lay in lays]
        kept = (list(sheet), list(handed))
        sums = paid(sheet, handed)
        gains = got(sheet, handed)
        self.assertEqual((sheet, handed), kept)
        self.assertEqual([type(sums), type(gains)], [list, list])
        self.assertTrue(all(is_part(one) for one in sums + gains))
        self.assertEqual([fraction(one) for one in sums], paid_by_hand(sheet, lays))
        self.assertEqual([fraction(one) for one in gains], got_by_hand(sheet, lays))
        for member, lay in enumerate(lays):
            self.assertEqual(sum(fraction(one) for due, one in zip(sheet, sums) if due[0] == member), lay)
        self.assertEqual(sum(fraction(one) for one in gains), sum(lays))

    def test_no_dues(self):
        self.assertEqual(paid([], [(0, 1)]), [])
        self.assertEqual(got([], [(0, 1), (0, 1)]), [(0, 1), (0, 1)])

    def test_lays_of_nought(self):
        self.assertEqual(paid(RANKED, [(0, 1)] * 3), [(0, 1)] * 6)
        self.assertEqual(got(RANKED, [(0, 1)] * 3), [(0, 1)] * 3)

    def test_all_that_is_owed(self):
        self.assertEqual(paid(RANKED, [(14, 1), (0, 1), (0, 1)]), [(2, 1), (4, 1), (5, 1), (3, 1), (0, 1), (0, 1)])
        self.assertEqual(got(RANKED, [(14, 1), (0, 1), (0, 1)]), [(0, 1), (7, 1), (7, 1)])

    def test_just_one_rank(self):
        self.assertEqual(paid(RANKED, [(6, 1), (0, 1), (0, 1)])[:4], [(2, 1), (4, 1), (0, 1), (0, 1)])
        self.assertEqual(paid(RANKED, [(11, 1), (0, 1), (0, 1)])[:4], [(2, 1), (4, 1), (5, 1), (0, 1)])

    def test_a_part_of_a_rank(self):
        self.assertEqual(paid(RANKED, [(1, 1), (0, 1), (0, 1)])[:4], [(1, 3), (2, 3), (0, 1), (0, 1)])
        self.assertEqual(paid(RANKED, [(17, 2), (0, 1), (0, 1)])[:4], [(2, 1), (4, 1), (5, 2), (0, 1)])
        self.assertEqual(got(RANKED, [(17, 2), (0, 1), (0, 1)]), [(0, 1), (9, 2), (4, 1)])

    def test_a_rank_in_which_nothing_is_owed(self):
        sheet = [(0, 1, 2, 4), (0, 1, 1, 0), (1, 0, 1, 3)]
        self.assertEqual(paid(sheet, [(1, 2), (3, 1)]), [(1, 2), (0, 1), (3, 1)])

    def test_dues_alike(self):
        self.assertEqual(paid([(0, 1, 0, 3)] * 3, [(2, 1), (0, 1)]), [(2, 3)] * 3)

    def test_by_chance(self):
        chance = random.Random(41)
        for turn in range(200):
            many = chance.randrange(1, 10)
            sheet = some_sheet(chance, many, chance.randrange(chance.choice((5, 20, 65))), chance.choice((3, 30, GREAT)))
            with self.subTest(turn=turn):
                self.check(sheet, some_lays(chance, many, sheet))

    def test_lays_of_four_thousand_figures(self):
        chance = random.Random(42)
        sheet = full_sheet(chance)
        bottoms = [chance.randrange(10 ** 3984, 10 ** 3985) for member in range(9)]
        lays = [owed * Fraction(chance.randrange(bottom), bottom) for owed, bottom in zip(owes_by_hand(9, sheet), bottoms)]
        gains = got(sheet, [as_part(lay) for lay in lays])
        self.assertTrue([fraction(one) for one in gains] == got_by_hand(sheet, lays))

    def test_told_lists_are_new(self):
        lays = [(1, 1), (0, 1), (0, 1)]
        sums, gains = paid(RANKED, lays), got(RANKED, lays)
        lays[0] = (14, 1)
        self.assertEqual(sums[:2], [(1, 3), (2, 3)])
        self.assertEqual(gains, [(0, 1), (1, 3), (2, 3)])
        sums.clear()
        gains.clear()
        self.assertEqual(len(paid(RANKED, lays)), 6)


class ClearingTest(unittest.TestCase):
    def test_all_pay_in_full(self):
        sheet = [(0, 1, 0, 5), (1, 2, 1, 7)]
        self.assertIs(is_clearing(sheet, [5, 2, 0], [(5, 1), (7, 1), (0, 1)]), True)
        self.assertIs(is_clearing([], [3], [(0, 1)]), True)

    def test_some_fall_short(self):
        sheet = [(0, 1, 0, 5), (1, 2, 1, 7)]
        self.assertIs(is_clearing(sheet, [3, 2, 0], [(3, 1), (5, 1), (0, 1)]), True)

    def test_a_little_more_or_less(self):
        sheet = [(0, 1, 0, 5), (1, 2, 1, 7)]
        for lays in (
            [(3, 1), (5, 1), (0, 1)],
        ):
            self.assertIs(is_clearing(sheet, [3, 2, 0], lays), True)
            for member in range(2):
                for off in (Fraction(1, 10 ** 50), Fraction(-1, 10 ** 50), 1, -1):
                    near = list(lays)
                    near[member] = as_part(fraction(lays[member]) + off)
                    with self.subTest(near=near):
                        self.assertIs(is_clearing(sheet, [3, 2, 0], near), False)

    def test_no_lays(self):
        sheet = [(0, 1, 0, 5), (1, 0, 1, 5)]
        for lays in ([(-1, 1), (0, 1)], [(0, 1), (-1, 2)], [(6, 1), (5, 1)], [(5, 1), (51, 10)], [(6, 1), (6, 1)], [(-1, 1), (-1, 1)]):
            with self.subTest(lays=lays):
                self.assertIs(is_clearing(sheet, [0, 0], lays), False)
                self.assertIs(is_clearing(sheet, [9, 9], lays), False)
        # These would follow from themselves, if they were lays.
        self.assertIs(is_clearing(whole_ring(2, 5), [0, 0], [(-1, 1), (-1, 1)]), False)
        self.assertIs(is_clearing([], [3], [(3, 1)]), False)
        self.assertIs(is_clearing([], [3], [(-3, 1)]), False)

    def test_rings_without_coins(self):
        sheet = whole_ring(4, 6)
        for lay in ((0, 1), (1, 1), (7, 2), (6, 1)):
            self.assertIs(is_clearing(sheet, [0] * 4, [lay] * 4), True)
        self.assertIs(is_clearing(sheet, [0] * 4, [(7, 1)] * 4), False)
        self.assertIs(is_clearing(sheet, [0] * 4, [(1, 1), (1, 1), (1, 1), (2, 1)]), False)
        self.assertIs(is_clearing(sheet, [1, 0, 0, 0], [(1, 1)] * 4), False)
        self.assertIs(is_clearing(sheet, [1, 0, 0, 0], [(6, 1)] * 4), True)

    def test_by_its_words_on_small_sheets(self):
        chance = random.Random(43)
        seen = {True: 0, False: 0}
        for turn in range(1500):
            many = chance.randrange(1, 4)
            sheet = some_sheet(chance, many, chance.randrange(5), 2)
            purses = [chance.randrange(3) for member in range(many)]
            lays = [Fraction(chance.randrange(-1, 9), chance.choice((1, 1, 2))) for member in range(many)]
            owed = owes_by_hand(many, sheet)
            if turn % 3:
                lays = [min(max(lay, Fraction(0)), Fraction(one)) for lay, one in zip(lays, owed)]
            expected = all(0 <= lay <= one for lay, one in zip(lays, owed))
            expected = expected and next_by_hand(sheet, purses, lays) == lays
            seen[expected] += 1
            handed = [as_part(lay) for lay in lays]
            kept = (list(sheet), list(purses), list(handed))
            with self.subTest(turn=turn):
                self.assertIs(is_clearing(sheet, purses, handed), expected)
                self.assertEqual((sheet, purses, handed), kept)
        self.assertGreater(min(seen.values()), 100)


class RoundsTest(unittest.TestCase):
    def check(self, sheet, purses, turns):
        kept = (list(sheet), list(purses))
        lists = rounds(sheet, purses, turns)
        self.assertEqual((sheet, purses), kept)
        self.assertIs(type(lists), list)
        self.assertEqual(len(lists), turns + 1)
        self.assertTrue(all(type(some) is list and all(is_part(one) for one in some) for some in lists))
        told = [[fraction(one) for one in some] for some in lists]
        self.assertEqual(told[0], owes_by_hand(len(purses), sheet))
        for ahead, behind in zip(told, told[1:]):
            self.assertEqual(behind, next_by_hand(sheet, purses, ahead))
        return lists

    def test_no_turn(self):
        self.assertEqual(self.check(RANKED, [1, 1, 1], 0), [[(14, 1), (0, 1), (0, 1)]])
        self.assertEqual(self.check([], [4], 0), [[(0, 1)]])

    def test_turns(self):
        sheet = [(0, 1, 0, 8), (1, 0, 0, 4), (1, 2, 0, 4)]
        self.assertEqual(
            self.check(sheet, [0, 0, 0], 3),
            [[(8, 1), (8, 1), (0, 1)], [(4, 1), (8, 1), (0, 1)], [(4, 1), (4, 1), (0, 1)], [(2, 1), (4, 1), (0, 1)]],
        )

    def test_eight_turns_by_chance(self):
        chance = random.Random(44)
        for turn in range(60):
            many = chance.randrange(1, 10)
            sheet = some_sheet(chance, many, chance.randrange(65), chance.choice((3, 30, GREAT)))
            purses = [chance.choice((0, chance.randrange(5), chance.randrange(GREAT))) for member in range(many)]
            with self.subTest(turn=turn):
                self.check(sheet, purses, 8)

    def test_told_lists_are_new(self):
        sheet = whole_ring(3, 5)
        lists = rounds(sheet, [0, 0, 0], 8)
        lists[0].clear()
        self.assertEqual(lists[1], [(5, 1)] * 3)
        purses = [0, 0, 0]
        lists = rounds(sheet, purses, 2)
        purses[0] = 9
        sheet.clear()
        self.assertEqual(lists, [[(5, 1)] * 3] * 3)


if __name__ == "__main__":
    unittest.main()
