import random
import unittest

from quits.worst import losses_of, worst_days


class LossesTest(unittest.TestCase):
    def test_one_day(self):
        self.assertEqual(losses_of([3], [[2]]), [-6])
        self.assertEqual(losses_of([3], [[-2]]), [6])
        self.assertEqual(losses_of([-3], [[2]]), [6])
        self.assertEqual(losses_of([0], [[2]]), [0])

    def test_several_wares_and_days(self):
        self.assertEqual(losses_of([1, -2, 3], [[1, 1, 1], [0, 5, 0], [-4, 0, -1]]), [-2, 10, 7])

    def test_great_numbers(self):
        great = 10 ** 13 - 1
        self.assertEqual(losses_of([great] * 4, [[-great] * 4] * 30), [4 * great ** 2] * 30)
        self.assertEqual(losses_of([great] * 4, [[great] * 4]), [-4 * great ** 2])


class WorstDaysTest(unittest.TestCase):
    def test_the_greatest_first(self):
        moves = [[-1], [5], [-7], [-3]]
        self.assertEqual(worst_days([1], moves, 0), [])
        self.assertEqual(worst_days([1], moves, 1), [2])
        self.assertEqual(worst_days([1], moves, 3), [2, 3, 0])
        self.assertEqual(worst_days([1], moves, 4), [2, 3, 0, 1])
        self.assertEqual(worst_days([-1], moves, 4), [1, 0, 3, 2])

    def test_of_one_day(self):
        self.assertEqual(worst_days([1], [[9]], 0), [])
        self.assertEqual(worst_days([1], [[9]], 1), [0])

    def test_of_days_of_the_same_loss_the_earlier_comes_first(self):
        self.assertEqual(worst_days([0, 0], [[1, 2]] * 5, 3), [0, 1, 2])
        self.assertEqual(worst_days([1], [[-1], [-2], [-1], [-2], [-1]], 4), [1, 3, 0, 2])
        self.assertEqual(worst_days([1, 1], [[1, 1], [2, 0], [0, 2], [3, -3]], 4), [3, 0, 1, 2])

    def test_by_chance(self):
        chance = random.Random(81)
        for turn in range(300):
            wares = chance.randrange(1, 5)
            most = chance.choice((1, 3, 10 ** 12 - 1))
            moves = [[chance.randrange(-most, most + 1) for ware in range(wares)] for day in range(chance.randrange(1, 31))]
            position = [chance.randrange(-most, most + 1) for ware in range(wares)]
            kept = ([list(day) for day in moves], list(position))
            losses = losses_of(position, moves)
            with self.subTest(turn=turn):
                self.assertEqual(losses, [-sum(units * move for units, move in zip(position, day)) for day in moves])
                days = worst_days(position, moves, len(moves))
                self.assertEqual(sorted(days), list(range(len(moves))))
                for ahead, behind in zip(days, days[1:]):
                    self.assertTrue(losses[ahead] > losses[behind] or losses[ahead] == losses[behind] and ahead < behind)
                k = chance.randrange(len(moves) + 1)
                self.assertEqual(worst_days(position, moves, k), days[:k])
                self.assertEqual((moves, position), kept)


if __name__ == "__main__":
    unittest.main()
