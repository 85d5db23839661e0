import copy
import itertools
import random
import unittest

from quits.bearing import by_level, by_shares
from quits.errors import NoLayer
from quits.layers import gaps_of, layered
from tests.helper import GREAT, full_sheet, nets_by_hand, some_purses, some_sheet

WORDS = ("pledge", "share", "own", "others", "level")
ORDERS = [list(order) for count in range(6) for order in itertools.permutations(WORDS, count)]


class GapsTest(unittest.TestCase):
    def test_no_dues(self):
        self.assertEqual(gaps_of([], [0]), [0])
        self.assertEqual(gaps_of([], [3, 4]), [0, 0])

    def test_a_purse_that_is_enough(self):
        sheet = [(0, 1, 0, 9), (1, 0, 2, 4)]
        self.assertEqual(gaps_of(sheet, [5, 0]), [0, 0])
        self.assertEqual(gaps_of(sheet, [6, 0]), [0, 0])

    def test_a_purse_that_is_not(self):
        sheet = [(0, 1, 0, 9), (1, 0, 2, 4)]
        self.assertEqual(gaps_of(sheet, [4, 0]), [1, 0])
        self.assertEqual(gaps_of(sheet, [0, 0]), [5, 0])
        self.assertEqual(gaps_of([(0, 1, 0, 9), (0, 2, 1, 9), (2, 1, 2, 10)], [3, 7, 0]), [15, 0, 1])

    def test_by_chance(self):
        chance = random.Random(111)
        for turn in range(100):
            many = chance.randrange(1, 10)
            most = chance.choice((3, GREAT))
            sheet = some_sheet(chance, many, chance.randrange(65), most)
            purses = some_purses(chance, many, most)
            kept = (list(sheet), list(purses))
            with self.subTest(turn=turn):
                nets = nets_by_hand(many, sheet)
                self.assertEqual(gaps_of(sheet, purses), [max(0, -net - purse) for net, purse in zip(nets, purses)])
                self.assertEqual((sheet, purses), kept)

    def test_a_great_sheet(self):
        sheet = full_sheet(random.Random(112))
        self.assertEqual(sum(gaps_of(sheet, [0] * 9)), sum(max(0, net) for net in nets_by_hand(9, sheet)))


class LayeredTest(unittest.TestCase):
    def check(self, order, gaps, pledges, shares, own):
        handed = (order, gaps, pledges, shares)
        kept = copy.deepcopy(handed)
        told = layered(order, gaps, pledges, shares, own)
        self.assertEqual(handed, kept)
        self.assertIs(type(told), tuple)
        rows, rests = told
        self.assertEqual([type(rows), type(rests)], [list, list])
        self.assertEqual([row[0] for row in rows], order)
        left, shares_left = list(gaps), list(shares)
        for word, given, borne in rows:
            self.assertEqual([type(given), type(borne)], [list, list])
            self.assertEqual([len(given), len(borne)], [len(gaps), len(gaps) + 1])
            self.assertEqual(sum(given), sum(borne))
            self.check_row(word, given, borne, gaps, left, pledges, shares_left, own)
            left = [gap - coins for gap, coins in zip(left, given)]
            if word in ("share", "others", "level"):
                shares_left = [share - coins for share, coins in zip(shares_left, borne)]
            self.assertTrue(all(number >= 0 for number in left + shares_left))
        self.assertEqual(rests, left)
        return told

    def check_row(self, word, given, borne, gaps, left, pledges, shares, own):
        if word in ("pledge", "share"):
            there = pledges if word == "pledge" else shares
            self.assertEqual(given, [min(gap, coins) for gap, coins in zip(left, there)])
            self.assertEqual(borne, given + [0])
        elif word == "own":
            coins = min(own, sum(left))
            self.assertEqual(borne, [0] * len(gaps) + [coins])
            self.assertEqual(given, by_shares(coins, left))
        else:
            bounds = [share if gap == 0 else 0 for share, gap in zip(shares, gaps)]
            coins = min(sum(bounds), sum(left))
            way = by_shares if word == "others" else by_level
            self.assertEqual(borne, way(coins, bounds) + [0])
            self.assertEqual(given, by_shares(coins, left))

    def test_the_empty_order(self):
        self.assertEqual(self.check([], [5, 0], [9, 9], [9, 9], 9), ([], [5, 0]))
        self.assertEqual(self.check([], [0], [0], [0], 0), ([], [0]))

    def test_pledge_alone(self):
        told = self.check(["pledge"], [5, 0, 7], [9, 9, 4], [9, 9, 9], 9)
        self.assertEqual(told, ([("pledge", [5, 0, 4], [5, 0, 4, 0])], [0, 0, 3]))

    def test_share_alone(self):
        told = self.check(["share"], [5, 0, 7], [9, 9, 9], [2, 9, 8], 9)
        self.assertEqual(told, ([("share", [2, 0, 7], [2, 0, 7, 0])], [3, 0, 0]))

    def test_own_alone(self):
        told = self.check(["own"], [5, 0, 10], [9, 9, 9], [9, 9, 9], 4)
        self.assertEqual(told, ([("own", [2, 0, 2], [0, 0, 0, 4])], [3, 0, 8]))
        told = self.check(["own"], [5, 0, 10], [9, 9, 9], [9, 9, 9], 40)
        self.assertEqual(told, ([("own", [5, 0, 10], [0, 0, 0, 15])], [0, 0, 0]))

    def test_others_alone(self):
        told = self.check(["others"], [6, 0, 0, 0], [9] * 4, [9, 3, 0, 9], 9)
        self.assertEqual(told, ([("others", [6, 0, 0, 0], [0, 2, 0, 4, 0])], [0, 0, 0, 0]))
        told = self.check(["others"], [6, 20, 0, 0], [9] * 4, [9, 9, 3, 9], 9)
        self.assertEqual(told, ([("others", [3, 9, 0, 0], [0, 0, 3, 9, 0])], [3, 11, 0, 0]))

    def test_level_alone(self):
        told = self.check(["level"], [7, 0, 0, 0], [9] * 4, [9, 3, 0, 9], 9)
        self.assertEqual(told, ([("level", [7, 0, 0, 0], [0, 3, 0, 4, 0])], [0, 0, 0, 0]))

    def test_those_with_a_gap_from_the_beginning_bear_for_nobody(self):
        rows, rests = self.check(["pledge", "others", "level"], [5, 5, 0], [5, 0, 0], [9, 9, 2], 0)
        self.assertEqual(rows[1][2], [0, 0, 2, 0])
        self.assertEqual(rows[2][2], [0, 0, 0, 0])
        self.assertEqual(rests, [0, 3, 0])

    def test_what_was_borne_is_not_there_any_more(self):
        rows, rests = self.check(["others", "level"], [9, 0, 0], [0] * 3, [0, 2, 3], 0)
        self.assertEqual(rows[0][2], [0, 2, 3, 0])
        self.assertEqual(rows[1][2], [0, 0, 0, 0])
        self.assertEqual(rests, [4, 0, 0])

    def test_nobody_has_a_gap(self):
        for order in ORDERS:
            rows, rests = self.check(order, [0, 0], [9, 9], [9, 9], 9)
            self.assertEqual(rests, [0, 0])
            self.assertTrue(all(sum(borne) == 0 for word, given, borne in rows))

    def test_everybody_has_a_gap(self):
        for order in ORDERS:
            self.check(order, [5, 7], [1, 2], [2, 1], 3)

    def test_every_order(self):
        chance = random.Random(113)
        for order in ORDERS:
            many = chance.randrange(1, 10)
            most = chance.choice((3, 20, GREAT))
            some = [some_purses(chance, many, most) for each in range(3)]
            with self.subTest(order=order):
                self.check(order, some[0], some[1], some[2], chance.randrange(most + 1))

    def test_great_gaps(self):
        for order in ORDERS[-10:]:
            self.check(order, [100 * GREAT] * 8 + [0], [GREAT] * 9, [GREAT] * 9, GREAT)

    def test_no_such_word(self):
        for order in (["pledges"], [""], ["pledge", "house"], ["Own"], ["own", "share", "rest"], ["pledge", "pledgeshare"]):
            with self.subTest(order=order):
                with self.assertRaises(NoLayer):
                    layered(order, [1], [1], [1], 1)

    def test_a_word_twice(self):
        for word in WORDS:
            with self.assertRaises(NoLayer):
                layered([word, word], [1], [1], [1], 1)
        for order in (["own", "share", "own"], list(WORDS) + ["pledge"]):
            with self.assertRaises(NoLayer):
                layered(order, [0, 0], [1, 1], [1, 1], 1)

    def test_told_lists_are_new(self):
        gaps, pledges, shares, order = [5, 0], [9, 9], [9, 9], list(WORDS)
        rows, rests = layered(order, gaps, pledges, shares, 9)
        rows[0][1][0] = 77
        self.assertEqual(rows[0][2], [5, 0, 0])
        shown = repr((rows, rests))
        gaps[0] = pledges[0] = shares[0] = 0
        order.clear()
        self.assertEqual(repr((rows, rests)), shown)
        told = layered([], [5, 0], [9, 9], [9, 9], 9)
        told[1][0] = 8
        self.assertEqual(layered([], [5, 0], [9, 9], [9, 9], 9)[1], [5, 0])
        kept = [5, 0]
        layered([], kept, [9, 9], [9, 9], 9)[1].clear()
        self.assertEqual(kept, [5, 0])


if __name__ == "__main__":
    unittest.main()
