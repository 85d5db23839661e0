import itertools
import random
import unittest

from quits.bearing import by_level, by_shares
from quits.errors import TooMuch


def shares_by_hand(coins, bounds):
    together = sum(bounds)
    if together == 0:
        return [0] * len(bounds)
    told = [coins * bound // together for bound in bounds]
    broken = [place for place, bound in enumerate(bounds) if coins * bound % together]
    for place in broken[:coins - sum(told)]:
        told[place] += 1
    return told


def level_by_hand(coins, bounds):
    """Level by level: only for small sums."""
    if coins == sum(bounds):
        return list(bounds)
    level = 0
    while sum(min(bound, level + 1) for bound in bounds) <= coins:
        level += 1
    told = [min(bound, level) for bound in bounds]
    above = [place for place, bound in enumerate(bounds) if bound > level]
    for place in above[:coins - sum(told)]:
        told[place] += 1
    return told


class BearingCase(unittest.TestCase):
    def check(self, way, coins, bounds):
        kept = list(bounds)
        told = way(coins, bounds)
        self.assertEqual(bounds, kept)
        self.assertIs(type(told), list)
        self.assertEqual(len(told), len(bounds))
        self.assertEqual(sum(told), coins)
        self.assertTrue(all(type(one) is int and 0 <= one <= bound for one, bound in zip(told, bounds)))
        return told


class BothTest(BearingCase):
    def test_no_bounds(self):
        for way in (by_shares, by_level):
            self.assertEqual(self.check(way, 0, []), [])
            with self.assertRaises(TooMuch):
                way(1, [])

    def test_all_bounds_nought(self):
        for way in (by_shares, by_level):
            self.assertEqual(self.check(way, 0, [0, 0, 0]), [0, 0, 0])
            with self.assertRaises(TooMuch):
                way(1, [0, 0, 0])

    def test_the_sum_nought(self):
        for way in (by_shares, by_level):
            self.assertEqual(self.check(way, 0, [4, 0, 9]), [0, 0, 0])

    def test_the_sum_of_all_bounds(self):
        for way in (by_shares, by_level):
            self.assertEqual(self.check(way, 13, [4, 0, 9]), [4, 0, 9])

    def test_one_coin_above(self):
        for way in (by_shares, by_level):
            for bounds in ([4, 0, 9], [1], [10 ** 59] * 64):
                kept = list(bounds)
                with self.assertRaises(TooMuch):
                    way(sum(bounds) + 1, bounds)
                self.assertEqual(bounds, kept)

    def test_told_lists_are_new(self):
        for way in (by_shares, by_level):
            bounds = [4, 0, 9]
            told = way(13, bounds)
            told[0] = 99
            self.assertEqual(bounds, [4, 0, 9])
            told = way(13, bounds)
            bounds[0] = 99
            self.assertEqual(told, [4, 0, 9])

    def test_great_sums_in_time(self):
        chance = random.Random(101)
        for turn in range(50):
            bounds = [chance.randrange(10 ** chance.randrange(1, 61)) for bearer in range(chance.randrange(65))]
            for coins in (sum(bounds) // 3, sum(bounds) * 999 // 1000, max(sum(bounds) - 1, 0), min(1, sum(bounds))):
                with self.subTest(turn=turn):
                    self.assertEqual(self.check(by_shares, coins, bounds), shares_by_hand(coins, bounds))
                    self.check(by_level, coins, bounds)


class SharesTest(BearingCase):
    def test_whole_shares(self):
        self.assertEqual(by_shares(6, [4, 0, 8]), [2, 0, 4])

    def test_coins_left_over(self):
        self.assertEqual(by_shares(1, [3, 3, 3]), [1, 0, 0])
        self.assertEqual(by_shares(2, [3, 3, 3]), [1, 1, 0])
        self.assertEqual(by_shares(4, [3, 3, 3]), [2, 1, 1])
        self.assertEqual(by_shares(1, [0, 1, 2]), [0, 1, 0])

    def test_only_those_with_a_broken_share_get_one_more(self):
        # The first bears just 2 of 8; one coin of the others' two and a half and three and a half is left over.
        self.assertEqual(by_shares(8, [4, 5, 7]), [2, 3, 3])
        self.assertEqual(by_shares(5, [2, 1, 1, 6]), [1, 1, 0, 3])

    def test_all_small_ones(self):
        for bounds in itertools.product(range(5), repeat=3):
            for coins in range(sum(bounds) + 1):
                self.assertEqual(self.check(by_shares, coins, list(bounds)), shares_by_hand(coins, bounds))


class LevelTest(BearingCase):
    def test_a_level(self):
        self.assertEqual(by_level(9, [5, 1, 5]), [4, 1, 4])
        self.assertEqual(by_level(6, [2, 9, 0, 9]), [2, 2, 0, 2])

    def test_coins_left_over(self):
        self.assertEqual(by_level(10, [5, 1, 5]), [5, 1, 4])
        self.assertEqual(by_level(1, [5, 1, 5]), [1, 0, 0])
        self.assertEqual(by_level(2, [0, 1, 5, 5]), [0, 1, 1, 0])
        self.assertEqual(by_level(7, [2, 9, 0, 9]), [2, 3, 0, 2])

    def test_the_first_bound_at_the_level_gets_none_more(self):
        self.assertEqual(by_level(5, [1, 3, 3]), [1, 2, 2])
        self.assertEqual(by_level(4, [1, 3, 3]), [1, 2, 1])

    def test_all_small_ones(self):
        for bounds in itertools.product(range(5), repeat=3):
            for coins in range(sum(bounds) + 1):
                self.assertEqual(self.check(by_level, coins, list(bounds)), level_by_hand(coins, bounds))

    def test_by_chance(self):
        chance = random.Random(102)
        for turn in range(300):
            bounds = [chance.randrange(chance.choice((2, 30))) for bearer in range(chance.randrange(65))]
            coins = chance.randrange(sum(bounds) + 1)
            with self.subTest(turn=turn):
                self.assertEqual(self.check(by_level, coins, bounds), level_by_hand(coins, bounds))

    def test_great_bounds(self):
        great = 10 ** 59
        level = (great - 5) // 3
        self.assertEqual(by_level(great, [great, 5, great, great]), [level + 1, 5, level + 1, level])
        self.assertEqual(sum(by_level(64 * great - 1, [great] * 64)), 64 * great - 1)
        self.assertEqual(by_level(64 * great - 1, [great] * 64)[-1], great - 1)


if __name__ == "__main__":
    unittest.main()
