import random
import unittest
from fractions import Fraction

from quits.clearing import cleared, ends_of
from quits.nets import housed, paired
from quits.paying import is_clearing, rounds
from tests.helper import (
    GREAT, fraction, full_sheet, got_by_hand, has_roads, is_part, next_by_hand, owes_by_hand, some_purses, some_sheet,
    whole_ring,
)


def wholes(some):
    return [(number, 1) for number in some]


def near_rounds(sheet, purses, turns):
    """Rounds with Python's own broken numbers: near, but found another way."""
    owed = [float(one) for one in owes_by_hand(len(purses), sheet)]
    sums = [[float(sum(due[3] for due in sheet if due[0] == member and due[2] == rank)) for rank in range(3)] for member in range(len(purses))]
    lays = list(owed)
    for turn in range(turns):
        gains = [0.0] * len(purses)
        for payer, payee, rank, amount in sheet:
            if amount > 0:
                laid = min(max(lays[payer] - sum(sums[payer][:rank]), 0.0), sums[payer][rank])
                gains[payee] += amount * laid / sums[payer][rank]
        lays = [min(one, purse + gain) for one, purse, gain in zip(owed, purses, gains)]
    return lays


class ClearedTest(unittest.TestCase):
    def check(self, sheet, purses):
        kept = (list(sheet), list(purses))
        told = cleared(sheet, purses)
        ends = ends_of(sheet, purses)
        self.assertEqual((sheet, purses), kept)
        self.assertEqual([type(told), type(ends)], [list, list])
        self.assertEqual([len(told), len(ends)], [len(purses)] * 2)
        self.assertTrue(all(is_part(one) for one in told + ends))
        lays = [fraction(one) for one in told]
        self.assertEqual(next_by_hand(sheet, purses, lays), lays)
        self.assertTrue(is_clearing(sheet, purses, told))
        self.assertTrue(has_roads(sheet, lays))
        gains = got_by_hand(sheet, lays)
        left = [fraction(one) for one in ends]
        self.assertEqual(left, [purse + gain - lay for purse, gain, lay in zip(purses, gains, lays)])
        self.assertEqual(sum(left), sum(purses))
        self.assertTrue(all(end >= 0 for end in left))
        return told

    def check_rounds(self, sheet, purses, lays):
        for some in rounds(sheet, purses, 8):
            self.assertTrue(all(fraction(one) >= fraction(lay) for one, lay in zip(some, lays)))

    def test_no_dues(self):
        self.assertEqual(self.check([], [0]), [(0, 1)])
        self.assertEqual(self.check([], [3, 4]), wholes([0, 0]))
        self.assertEqual(ends_of([], [3, 4]), wholes([3, 4]))

    def test_dues_of_amount_nought(self):
        self.assertEqual(self.check([(0, 1, 0, 0), (1, 0, 1, 0)], [0, 2]), wholes([0, 0]))

    def test_all_can_pay(self):
        sheet = [(0, 1, 0, 5), (1, 2, 1, 7), (2, 0, 2, 1)]
        self.assertEqual(self.check(sheet, [9, 9, 9]), wholes([5, 7, 1]))
        self.assertEqual(ends_of(sheet, [9, 9, 9]), wholes([5, 7, 15]))
        self.assertEqual(self.check(sheet, [4, 2, 0]), wholes([5, 7, 1]))

    def test_one_falls_short_and_others_with_it(self):
        sheet = [(0, 1, 0, 5), (1, 2, 1, 7)]
        self.assertEqual(self.check(sheet, [3, 2, 0]), wholes([3, 5, 0]))
        self.assertEqual(ends_of(sheet, [3, 2, 0]), wholes([0, 0, 5]))

    def test_coins_go_round_where_purses_are_empty(self):
        self.assertEqual(self.check(whole_ring(2, 5), [0, 0]), wholes([5, 5]))
        self.assertEqual(self.check(whole_ring(9, GREAT, 2), [0] * 9), wholes([GREAT] * 9))
        self.assertEqual(ends_of(whole_ring(9, GREAT), [0] * 9), wholes([0] * 9))

    def test_a_ring_goes_as_far_as_its_least_due(self):
        sheet = [(0, 1, 0, 5), (1, 2, 0, 3), (2, 0, 0, 4)]
        self.assertEqual(self.check(sheet, [0, 0, 0]), wholes([3, 3, 3]))

    def test_rings_that_cross(self):
        # Member 0 has two rings at once, in one proportion.
        sheet = [(0, 1, 0, 6), (0, 2, 0, 3), (1, 0, 0, 6), (2, 0, 0, 3)]
        self.assertEqual(self.check(sheet, [0, 0, 0]), wholes([9, 6, 3]))
        sheet = [(0, 1, 0, 6), (0, 2, 0, 6), (1, 0, 0, 3), (2, 0, 0, 9)]
        self.assertEqual(self.check(sheet, [0, 0, 0]), wholes([6, 3, 3]))

    def test_a_ring_that_leads_out_pays_nothing(self):
        sheet = [(0, 1, 0, 8), (1, 0, 0, 4), (1, 2, 0, 4)]
        self.assertEqual(self.check(sheet, [0, 0, 0]), wholes([0, 0, 0]))

    def test_a_ring_that_leads_out_in_a_later_rank(self):
        sheet = [(0, 1, 0, 8), (1, 0, 0, 8), (1, 2, 1, 4), (0, 2, 2, 1)]
        self.assertEqual(self.check(sheet, [0, 0, 0]), wholes([8, 8, 0]))
        self.assertEqual(self.check(sheet, [1, 3, 0]), wholes([9, 11, 0]))

    def test_short_in_different_ranks(self):
        sheet = [(0, 3, 0, 4), (0, 3, 1, 4), (0, 3, 2, 4), (1, 3, 0, 4), (1, 3, 1, 4), (1, 3, 2, 4), (2, 3, 0, 4), (2, 3, 1, 4), (2, 3, 2, 4)]
        self.assertEqual(self.check(sheet, [1, 5, 9, 0]), wholes([1, 5, 9, 0]))
        self.assertEqual(ends_of(sheet, [1, 5, 9, 0]), wholes([0, 0, 0, 15]))

    def test_a_rank_is_shared(self):
        sheet = [(0, 1, 0, 1), (0, 2, 0, 2), (1, 2, 0, 3), (2, 1, 1, 5)]
        self.check(sheet, [1, 0, 0])
        self.assertEqual(cleared([(0, 1, 0, 1), (0, 2, 0, 2), (1, 2, 0, 3)], [1, 0, 0]), [(1, 1), (1, 3), (0, 1)])

    def test_rounds_never_come_to_it(self):
        sheet = [(0, 1, 0, 8), (1, 0, 0, 4), (1, 2, 0, 4)]
        for purses in ([0, 0, 0], [1, 0, 0], [0, 1, 5]):
            lays = self.check(sheet, purses)
            told = rounds(sheet, purses, 8)
            self.check_rounds(sheet, purses, lays)
            self.assertNotIn(lays, told)
            self.assertTrue(all(ahead != behind for ahead, behind in zip(told, told[1:])))
        self.assertEqual(cleared(sheet, [1, 0, 0]), [(2, 1), (2, 1), (0, 1)])

    def test_nothing_that_can_be_laid_is_above_it(self):
        chance = random.Random(51)
        tried = 0
        for turn in range(400):
            many = chance.randrange(2, 4)
            sheet = some_sheet(chance, many, chance.randrange(1, 6), 3)
            purses = some_purses(chance, many, 2)
            lays = [Fraction(chance.randrange(2 * owed + 1), 2) for owed in owes_by_hand(many, sheet)]
            gains = got_by_hand(sheet, lays)
            if all(lay <= purse + gain for lay, purse, gain in zip(lays, purses, gains)):
                tried += 1
                greatest = cleared(sheet, purses)
                self.assertTrue(all(lay <= fraction(one) for lay, one in zip(lays, greatest)))
        self.assertGreater(tried, 60)

    def test_as_near_as_many_rounds(self):
        chance = random.Random(52)
        for turn in range(80):
            many = chance.randrange(1, 6)
            sheet = some_sheet(chance, many, chance.randrange(12), 3)
            purses = some_purses(chance, many, 4)
            lays = self.check(sheet, purses)
            near = near_rounds(sheet, purses, 3000)
            with self.subTest(turn=turn):
                self.assertTrue(all(abs(float(fraction(lay)) - one) < 10 ** -6 for lay, one in zip(lays, near)))

    def test_by_chance(self):
        chance = random.Random(53)
        for turn in range(300):
            many = chance.randrange(1, 10)
            most = chance.choice((2, 30, GREAT))
            sheet = some_sheet(chance, many, chance.randrange(chance.choice((6, 20, 65))), most)
            purses = some_purses(chance, many, most * chance.choice((1, 1, 5)))
            with self.subTest(turn=turn):
                lays = self.check(sheet, purses)
                if turn % 6 == 0:
                    self.check_rounds(sheet, purses, lays)

    def test_great_sheets_end_in_time(self):
        chance = random.Random(54)
        for most in (1, 1000, GREAT // 10, GREAT, 10 * GREAT, 100 * GREAT):
            for turn in range(3):
                sheet = full_sheet(chance)
                purses = some_purses(chance, 9, most)
                with self.subTest(most=most, turn=turn):
                    self.check(sheet, purses)
                    self.check(paired(9, sheet), purses)
                    self.check(housed(8, full_sheet(chance, 8)), purses)

    def test_great_sheets_without_coins(self):
        chance = random.Random(55)
        for turn in range(5):
            sheet = full_sheet(chance)
            self.check_rounds(sheet, [0] * 9, self.check(sheet, [0] * 9))

    def test_told_lists_are_new(self):
        sheet = [(0, 1, 0, 5)]
        purses = [3, 0]
        lays, ends = cleared(sheet, purses), ends_of(sheet, purses)
        sheet.clear()
        purses[0] = 9
        self.assertEqual(lays, wholes([3, 0]))
        self.assertEqual(ends, wholes([0, 3]))
        lays.clear()
        self.assertEqual(cleared([(0, 1, 0, 5)], [3, 0]), wholes([3, 0]))


if __name__ == "__main__":
    unittest.main()
