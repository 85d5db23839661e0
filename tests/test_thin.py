import itertools
import random
import unittest

from quits.nets import housed, paired
from quits.thin import thinned
from tests.helper import GREAT, full_sheet, has_ring, nets_by_hand, put_in, some_sheet, whole_ring


class ThinTest(unittest.TestCase):
    def check(self, many, sheet):
        kept = list(sheet)
        told = thinned(many, sheet)
        self.assertEqual(sheet, kept)
        self.assertIs(type(told), tuple)
        left, heights = told
        self.assertEqual([type(left), type(heights)], [list, list])
        self.assertEqual([len(left), len(heights)], [len(sheet), many])
        self.assertTrue(all(type(number) is int for number in left + heights))
        self.assertTrue(all(abs(height) < 10 ** 60 for height in heights))
        for (payer, payee, rank, amount), rest in zip(sheet, left):
            self.assertGreaterEqual(rest, 0)
            self.assertLessEqual(rest, amount)
            rise = heights[payee] - heights[payer]
            if rest > 0:
                self.assertGreaterEqual(rise, 1)
            if rest < amount:
                self.assertLessEqual(rise, 1)
        self.assertEqual(nets_by_hand(many, put_in(sheet, left)), nets_by_hand(many, sheet))
        self.assertFalse(has_ring(many, put_in(sheet, left)))
        return left

    def test_no_dues(self):
        self.assertEqual(self.check(1, []), [])
        self.assertEqual(self.check(9, []), [])

    def test_one_due(self):
        self.assertEqual(self.check(2, [(1, 0, 2, 5)]), [5])
        self.assertEqual(self.check(3, [(1, 0, 2, 0)]), [0])

    def test_rings(self):
        self.assertEqual(self.check(2, [(0, 1, 0, 5), (1, 0, 1, 3)]), [2, 0])
        self.assertEqual(self.check(3, [(0, 1, 0, 5), (1, 2, 1, 3), (2, 0, 2, 4)]), [2, 0, 1])
        self.assertEqual(self.check(9, whole_ring(9, GREAT)), [0] * 9)

    def test_rings_that_cross(self):
        # Cutting the greater ring takes off more than cutting the lesser one, which shares its first due.
        sheet = [(0, 1, 0, 4), (1, 0, 0, 4), (1, 2, 0, 4), (2, 3, 0, 4), (3, 0, 0, 4)]
        self.assertEqual(self.check(4, sheet), [0, 4, 0, 0, 0])

    def test_a_way_round_is_not_taken_where_there_is_a_shorter_one(self):
        sheet = [(0, 1, 0, 4), (1, 2, 0, 4), (0, 2, 0, 4), (2, 1, 0, 2), (2, 0, 0, 3)]
        self.assertEqual(self.check(3, sheet), [2, 0, 3, 0, 0])

    def test_dues_of_amount_nought(self):
        self.assertEqual(self.check(3, [(0, 1, 0, 0), (1, 2, 0, 0), (2, 0, 0, 0)]), [0, 0, 0])
        self.assertEqual(self.check(3, [(0, 1, 0, 4), (1, 0, 0, 0), (2, 0, 0, 0)]), [4, 0, 0])

    def test_no_lesser_sum_is_there(self):
        chance = random.Random(21)
        for turn in range(60):
            many = chance.randrange(2, 5)
            sheet = some_sheet(chance, many, chance.randrange(1, 7), 3)
            wanted = nets_by_hand(many, sheet)
            tried = itertools.product(*(range(due[3] + 1) for due in sheet))
            sums = [sum(some) for some in tried if nets_by_hand(many, put_in(sheet, some)) == wanted]
            with self.subTest(turn=turn):
                self.assertEqual(sum(self.check(many, sheet)), min(sums))

    def test_by_chance(self):
        chance = random.Random(22)
        for turn in range(300):
            many = chance.randrange(1, 10)
            sheet = some_sheet(chance, many, chance.randrange(chance.choice((5, 20, 65))), chance.choice((2, 50, GREAT)))
            with self.subTest(turn=turn):
                self.check(many, sheet)

    def test_great_sheets_end_in_time(self):
        chance = random.Random(23)
        for turn in range(20):
            sheet = full_sheet(chance)
            self.check(9, sheet)
            self.check(9, paired(9, sheet))
            self.check(9, housed(8, full_sheet(chance, 8)))

    def test_great_amounts_beside_small_ones(self):
        chance = random.Random(24)
        for turn in range(20):
            sheet = [due[:3] + (chance.choice((1, 2, GREAT - 1, GREAT)),) for due in full_sheet(chance)]
            with self.subTest(turn=turn):
                self.check(9, sheet)

    def test_told_lists_are_new(self):
        sheet = whole_ring(3, 4)
        left, heights = thinned(3, sheet)
        left.clear()
        heights.clear()
        self.assertEqual(self.check(3, sheet), [0, 0, 0])


if __name__ == "__main__":
    unittest.main()
