import random
import unittest
from fractions import Fraction

from quits.errors import NoRule
from quits.needs import joined, need_of
from tests.helper import fraction, is_part

MOVES = [[-1], [5], [-7], [-3]]


class JoinedTest(unittest.TestCase):
    def test_ware_by_ware(self):
        self.assertEqual(joined([1], [2]), [3])
        self.assertEqual(joined([1, -2, 0, 4], [5, 2, 0, -9]), [6, 0, 0, -5])
        great = 10 ** 12 - 1
        self.assertEqual(joined([great, -great], [great, -great]), [2 * great, -2 * great])

    def test_what_is_handed_in_stays(self):
        one, other = [1, 2], [3, 4]
        told = joined(one, other)
        self.assertEqual((one, other), ([1, 2], [3, 4]))
        one[0] = 9
        self.assertEqual(told, [4, 6])
        told.clear()
        self.assertEqual(other, [3, 4])


class NeedTest(unittest.TestCase):
    def test_worst(self):
        for k, need in ((1, 7), (2, 3), (3, 1), (4, 0)):
            with self.subTest(k=k):
                self.assertEqual(need_of(("worst", k), [1], MOVES), (need, 1))

    def test_mean(self):
        for k, need in ((1, (7, 1)), (2, (5, 1)), (3, (11, 3)), (4, (3, 2))):
            with self.subTest(k=k):
                self.assertEqual(need_of(("mean", k), [1], MOVES), need)

    def test_never_below_nought(self):
        self.assertEqual(need_of(("worst", 1), [1], [[4], [5]]), (0, 1))
        self.assertEqual(need_of(("mean", 2), [1], [[4], [5]]), (0, 1))
        self.assertEqual(need_of(("mean", 2), [1], [[-4], [5]]), (0, 1))
        self.assertEqual(need_of(("mean", 2), [1], [[-5], [5]]), (0, 1))
        self.assertEqual(need_of(("mean", 1), [0, 0], [[4, 1]]), (0, 1))

    def test_one_day(self):
        self.assertEqual(need_of(("worst", 1), [-2, 1], [[4, 1]]), (7, 1))
        self.assertEqual(need_of(("mean", 1), [-2, 1], [[4, 1]]), (7, 1))

    def test_no_such_k(self):
        for word in ("worst", "mean"):
            for k in (0, -1, 5, 10 ** 59, -(10 ** 59)):
                with self.subTest(word=word, k=k):
                    with self.assertRaises(NoRule):
                        need_of((word, k), [1], MOVES)

    def test_no_such_word(self):
        for word in ("", "best", "Worst", "mean ", "worstmean"):
            for k in (0, 1, 4):
                with self.subTest(word=word, k=k):
                    with self.assertRaises(NoRule):
                        need_of((word, k), [1], MOVES)

    def test_by_chance(self):
        chance = random.Random(91)
        for turn in range(300):
            wares = chance.randrange(1, 5)
            most = chance.choice((1, 3, 10 ** 12 - 1))
            moves = [[chance.randrange(-most, most + 1) for ware in range(wares)] for day in range(chance.randrange(1, 31))]
            one = [chance.randrange(-most, most + 1) for ware in range(wares)]
            other = [chance.randrange(-most, most + 1) for ware in range(wares)]
            k = chance.randrange(1, len(moves) + 1)
            kept = ([list(day) for day in moves], list(one), list(other))
            losses = sorted((-sum(units * move for units, move in zip(one, day)) for day in moves), reverse=True)
            with self.subTest(turn=turn):
                by_worst, by_mean = need_of(("worst", k), one, moves), need_of(("mean", k), one, moves)
                self.assertTrue(is_part(by_worst) and is_part(by_mean))
                self.assertEqual(fraction(by_worst), max(0, losses[k - 1]))
                self.assertEqual(fraction(by_mean), max(Fraction(0), Fraction(sum(losses[:k]), k)))
                for rule in (("mean", k), ("worst", 1)):
                    both = fraction(need_of(rule, one, moves)) + fraction(need_of(rule, other, moves))
                    self.assertLessEqual(fraction(need_of(rule, joined(one, other), moves)), both)
                self.assertEqual((moves, one, other), kept)


if __name__ == "__main__":
    unittest.main()
