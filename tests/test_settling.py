import copy
import itertools
import random
import unittest

from quits.clearing import cleared, ends_of
from quits.errors import NoLayer
from quits.layers import gaps_of, layered
from quits.settling import settled_day
from tests.helper import (
    GREAT, fraction, full_sheet, got_by_hand, has_ring, has_roads, is_part, nets_by_hand, next_by_hand, owes_by_hand, put_in,
    some_purses, some_sheet, stops_by_hand, whole_ring,
)

WORDS = ("pledge", "share", "own", "others", "level")
ORDERS = [list(order) for count in range(6) for order in itertools.permutations(WORDS, count)]


def wholes(some):
    return [(number, 1) for number in some]


class SettledDayTest(unittest.TestCase):
    def check(self, sheet, purses, pledges, shares, own, order):
        handed = (sheet, purses, pledges, shares, order)
        kept = copy.deepcopy(handed)
        told = settled_day(sheet, purses, pledges, shares, own, order)
        self.assertEqual(handed, kept)
        self.assertIs(type(told), tuple)
        self.assertEqual([type(some) for some in told], [list] * 7)
        gaps, rows, rests, left, lays, ends, outs = told
        self.assertEqual(gaps, gaps_of(sheet, purses))
        self.assertEqual((rows, rests), layered(order, gaps, pledges, shares, own))
        means = [purse + sum(row[1][member] for row in rows) for member, purse in enumerate(purses)]
        self.check_cut(sheet, means, left)
        self.check_cleared(put_in(sheet, left), means, lays, ends, outs)
        self.assertEqual(ends, ends_of(sheet, means))
        self.assertEqual(rests == [0] * len(purses), outs == [])
        self.assertTrue(all(end == (0, 1) for gap, end in zip(gaps, ends) if gap > 0))
        return told

    def check_cut(self, sheet, means, left):
        many = len(means)
        stops = stops_by_hand(sheet, [fraction(lay) for lay in cleared(sheet, means)])
        self.assertEqual(len(left), len(sheet))
        among = []
        for due, rest in zip(sheet, left):
            self.assertTrue(0 <= rest <= due[3])
            if stops[due[0]] is None and stops[due[1]] is None:
                among.append(due[:3] + (rest,))
            else:
                self.assertEqual(rest, due[3])
        self.assertFalse(has_ring(many, among))
        self.assertEqual(nets_by_hand(many, put_in(sheet, left)), nets_by_hand(many, sheet))

    def check_cleared(self, sheet, means, told, ends, outs):
        self.assertTrue(all(is_part(one) for one in told + ends))
        lays = [fraction(lay) for lay in told]
        self.assertEqual(next_by_hand(sheet, means, lays), lays)
        self.assertTrue(has_roads(sheet, lays))
        gains = got_by_hand(sheet, lays)
        self.assertEqual([fraction(end) for end in ends], [mean + gain - lay for mean, gain, lay in zip(means, gains, lays)])
        owed = owes_by_hand(len(means), sheet)
        self.assertEqual(outs, [member for member, lay in enumerate(lays) if lay < owed[member]])

    def test_no_dues(self):
        told = self.check([], [3, 0], [1, 1], [1, 1], 1, list(WORDS))
        rows = [(word, [0, 0], [0, 0, 0]) for word in WORDS]
        self.assertEqual(told, ([0, 0], rows, [0, 0], [], wholes([0, 0]), wholes([3, 0]), []))

    def test_paid_in_full_without_layers(self):
        told = self.check([(0, 1, 0, 5), (1, 0, 1, 3)], [2, 0], [0, 0], [0, 0], 0, [])
        self.assertEqual(told, ([0, 0], [], [0, 0], [2, 0], wholes([2, 0]), wholes([0, 2]), []))

    def test_a_ring_without_coins_is_cut_whole(self):
        told = self.check(whole_ring(3, 5), [0] * 3, [0] * 3, [0] * 3, 0, ["own"])
        self.assertEqual(told[3:], ([0, 0, 0], wholes([0] * 3), wholes([0] * 3), []))

    def test_paid_in_full_by_layers(self):
        sheet = [(0, 1, 0, 9)]
        told = self.check(sheet, [2, 0], [4, 4], [1, 5], 5, ["pledge", "share", "own"])
        rows = [("pledge", [4, 0], [4, 0, 0]), ("share", [1, 0], [1, 0, 0]), ("own", [2, 0], [0, 0, 2])]
        self.assertEqual(told, ([7, 0], rows, [0, 0], [9], wholes([9, 0]), wholes([0, 9]), []))

    def test_each_layer(self):
        sheet = [(0, 1, 0, 9)]
        for word, borne in (
            ("pledge", [4, 0, 0]), ("share", [3, 0, 0]), ("own", [0, 0, 6]), ("others", [0, 5, 0]), ("level", [0, 5, 0]),
        ):
            with self.subTest(word=word):
                told = self.check(sheet, [2, 0], [4, 4], [3, 5], 6, [word])
                paid = 2 + sum(borne)
                self.assertEqual(told[1], [(word, [sum(borne), 0], borne)])
                self.assertEqual(told[2:], ([9 - paid, 0], [9], wholes([paid, 0]), wholes([0, paid]), [0]))

    def test_one_falls_short_and_another_with_it(self):
        # Member 1 has no gap of its own: it lacks only what member 0 does not pay.
        told = self.check([(0, 1, 0, 9), (1, 2, 1, 9)], [2, 0, 0], [0] * 3, [0] * 3, 0, [])
        self.assertEqual(told, ([7, 0, 0], [], [7, 0, 0], [9, 9], wholes([2, 2, 0]), wholes([0, 0, 2]), [0, 1]))

    def test_rings_with_one_that_falls_short_stay(self):
        sheet = [(0, 1, 0, 5), (1, 0, 0, 5), (1, 2, 0, 4), (2, 1, 0, 3), (0, 2, 1, 6)]
        told = self.check(sheet, [0, 9, 9], [0] * 3, [0] * 3, 0, [])
        self.assertEqual(told[3], [5, 5, 1, 0, 6])
        self.assertEqual(told[6], [0])

    def test_no_layer(self):
        for order in (["pledges"], ["own", "own"], ["pledge", "share", "own", "others", "level", "own"], [""]):
            with self.assertRaises(NoLayer):
                settled_day([], [1], [1], [1], 1, order)
            with self.assertRaises(NoLayer):
                settled_day([(0, 1, 0, 9)], [1, 1], [1, 1], [1, 1], 1, order)

    def test_what_is_lacking_is_the_same_however_rings_are_cut(self):
        chance = random.Random(121)
        for turn in range(60):
            sheet = some_sheet(chance, 5, 14, 9)
            purses = some_purses(chance, 5, 9)
            told = settled_day(sheet, purses, [2] * 5, [3] * 5, 4, list(WORDS))
            again = settled_day(put_in(sheet, told[3]), purses, [2] * 5, [3] * 5, 4, list(WORDS))
            self.assertEqual(again[:3], told[:3])
            self.assertEqual(again[5:], told[5:])

    def test_every_order(self):
        chance = random.Random(122)
        seen = {True: 0, False: 0}
        for order in ORDERS:
            many = chance.randrange(1, 10)
            most = chance.choice((3, 30, GREAT))
            sheet = some_sheet(chance, many, chance.randrange(chance.choice((6, 20, 65))), most)
            purses, pledges, shares = [some_purses(chance, many, most * chance.choice((1, 4))) for each in range(3)]
            pledges = [min(coins, GREAT) for coins in pledges]
            shares = [min(coins, GREAT) for coins in shares]
            with self.subTest(order=order):
                told = self.check(sheet, purses, pledges, shares, chance.randrange(most + 1), order)
                seen[told[6] == []] += 1
        self.assertGreater(min(seen.values()), 40)

    def test_great_sheets(self):
        chance = random.Random(123)
        for most in (0, GREAT, 20 * GREAT):
            purses = some_purses(chance, 9, most)
            self.check(full_sheet(chance), purses, [GREAT] * 9, [GREAT] * 9, GREAT, list(WORDS))

    def test_told_lists_are_new(self):
        sheet, purses, order = [(0, 1, 0, 9)], [2, 0], ["pledge"]
        told = settled_day(sheet, purses, [4, 4], [1, 5], 5, order)
        shown = repr(told)
        sheet.clear()
        purses[0] = 7
        order.clear()
        self.assertEqual(repr(told), shown)
        told[0][0] = 88
        self.assertEqual(told[2], [3, 0])


if __name__ == "__main__":
    unittest.main()
