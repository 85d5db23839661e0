import random
import unittest
from fractions import Fraction

from quits.clearing import cleared
from quits.roads import roads, stops
from tests.helper import GREAT, as_part, fraction, full_sheet, owes_by_hand, some_purses, some_sheet, stops_by_hand, whole_ring

THREE = [(0, 1, 0, 4), (0, 1, 1, 3), (0, 1, 2, 2)]


class StopsTest(unittest.TestCase):
    def test_no_stop(self):
        self.assertEqual(stops(THREE, [(9, 1), (0, 1)]), [None, None])
        self.assertEqual(stops([], [(0, 1)]), [None])
        self.assertEqual(stops([(0, 1, 0, 0)], [(0, 1), (0, 1)]), [None, None])

    def test_in_each_rank(self):
        for lay, stop in ((0, 0), (1, 0), (Fraction(39, 10), 0), (5, 1), (Fraction(69, 10), 1), (8, 2), (Fraction(89, 10), 2)):
            with self.subTest(lay=lay):
                self.assertEqual(stops(THREE, [as_part(lay), (0, 1)]), [stop, None])

    def test_just_at_a_ranks_end(self):
        self.assertEqual(stops(THREE, [(4, 1), (0, 1)]), [1, None])
        self.assertEqual(stops(THREE, [(7, 1), (0, 1)]), [2, None])

    def test_ranks_in_which_nothing_is_owed(self):
        self.assertEqual(stops([(0, 1, 2, 5), (0, 1, 0, 0)], [(0, 1), (0, 1)]), [2, None])
        self.assertEqual(stops([(0, 1, 0, 4), (0, 1, 2, 2)], [(4, 1), (0, 1)]), [2, None])
        self.assertEqual(stops([(0, 1, 0, 4), (0, 1, 1, 0)], [(4, 1), (0, 1)]), [None, None])

    def test_by_chance(self):
        chance = random.Random(61)
        for turn in range(200):
            many = chance.randrange(1, 10)
            sheet = some_sheet(chance, many, chance.randrange(30), chance.choice((2, GREAT)))
            lays = [owed * Fraction(chance.randrange(5), 4) for owed in owes_by_hand(many, sheet)]
            lays = [min(lay, Fraction(owed)) for lay, owed in zip(lays, owes_by_hand(many, sheet))]
            handed = [as_part(lay) for lay in lays]
            kept = (list(sheet), list(handed))
            told = stops(sheet, handed)
            with self.subTest(turn=turn):
                self.assertEqual(told, stops_by_hand(sheet, lays))
                self.assertEqual((sheet, handed), kept)


class RoadsTest(unittest.TestCase):
    def check(self, sheet, purses):
        kept = (list(sheet), list(purses))
        told = roads(sheet, purses)
        self.assertEqual((sheet, purses), kept)
        self.assertIs(type(told), list)
        self.assertEqual(len(told), len(purses))
        ranks = stops_by_hand(sheet, [fraction(lay) for lay in cleared(sheet, purses)])
        for member, road in enumerate(told):
            self.assertIs(type(road), list)
            if ranks[member] is None:
                self.assertEqual(road, [])
            else:
                self.check_road(sheet, ranks, member, road)
        return told

    def check_road(self, sheet, ranks, member, road):
        self.assertGreaterEqual(len(road), 1)
        dues = [sheet[number] for number in road]
        self.assertEqual(dues[0][0], member)
        for payer, payee, rank, amount in dues:
            self.assertGreater(amount, 0)
            self.assertEqual(rank, ranks[payer])
        for due, after in zip(dues, dues[1:]):
            self.assertEqual(due[1], after[0])
        self.assertIsNone(ranks[dues[-1][1]])
        self.assertEqual(len({due[0] for due in dues}), len(dues))

    def test_all_pay_in_full(self):
        self.assertEqual(self.check([], [0, 0]), [[], []])
        self.assertEqual(self.check(whole_ring(4, 7), [0] * 4), [[]] * 4)

    def test_straight_on(self):
        self.assertEqual(self.check([(0, 1, 0, 0), (0, 1, 0, 5), (1, 2, 1, 7)], [3, 2, 0]), [[1, 2], [2], []])

    def test_only_along_the_rank_of_the_stop(self):
        sheet = [(0, 3, 0, 4), (0, 3, 2, 4), (0, 1, 1, 4), (1, 2, 0, 9), (1, 3, 1, 1)]
        self.assertEqual(self.check(sheet, [5, 0, 0, 0]), [[2, 3], [3], [], []])
        self.assertEqual(self.check(sheet, [3, 0, 0, 0]), [[0], [3], [], []])

    def test_in_each_rank(self):
        for purse, road in ((0, [0]), (3, [0]), (4, [1]), (6, [1]), (7, [2]), (8, [2]), (9, []), (10, [])):
            with self.subTest(purse=purse):
                self.assertEqual(self.check(THREE, [purse, 0]), [road, []])

    def test_out_of_a_ring(self):
        sheet = [(0, 1, 0, 8), (1, 0, 0, 4), (1, 2, 0, 4)]
        self.assertEqual(self.check(sheet, [0, 0, 0]), [[0, 2], [2], []])

    def test_by_chance(self):
        chance = random.Random(62)
        longest = 0
        for turn in range(300):
            many = chance.randrange(1, 10)
            most = chance.choice((2, 30, GREAT))
            sheet = some_sheet(chance, many, chance.randrange(chance.choice((6, 20, 65))), most)
            with self.subTest(turn=turn):
                told = self.check(sheet, some_purses(chance, many, most))
                longest = max([longest] + [len(road) for road in told])
        self.assertGreater(longest, 3)

    def test_great_sheets(self):
        chance = random.Random(63)
        for turn in range(5):
            self.check(full_sheet(chance), some_purses(chance, 9, GREAT // 100))

    def test_told_lists_are_new(self):
        sheet = [(0, 1, 0, 5), (1, 2, 1, 7), (2, 3, 0, 9)]
        told = roads(sheet, [0, 0, 0, 0])
        told[2].append(7)
        self.assertEqual(told[0], [0, 1, 2])
        told = roads([], [0, 0])
        told[0].append(1)
        self.assertEqual(told[1], [])


if __name__ == "__main__":
    unittest.main()
