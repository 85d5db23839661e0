import random
import unittest

from quits.clearing import cleared, ends_of
from quits.safe import safe_cut
from tests.helper import (
    GREAT, fraction, full_sheet, has_ring, nets_by_hand, paid_by_hand, put_in, some_purses, some_sheet, stops_by_hand, whole_ring,
)


class SafeCutTest(unittest.TestCase):
    def check(self, sheet, purses):
        kept = (list(sheet), list(purses))
        left = safe_cut(sheet, purses)
        self.assertEqual((sheet, purses), kept)
        self.assertIs(type(left), list)
        self.assertEqual(len(left), len(sheet))
        many = len(purses)
        lays = [fraction(lay) for lay in cleared(sheet, purses)]
        ranks = stops_by_hand(sheet, lays)
        among = []
        for due, rest in zip(sheet, left):
            self.assertTrue(type(rest) is int and 0 <= rest <= due[3])
            if ranks[due[0]] is None and ranks[due[1]] is None:
                among.append(due[:3] + (rest,))
            else:
                self.assertEqual(rest, due[3])
        self.assertFalse(has_ring(many, among))
        after = put_in(sheet, left)
        self.assertEqual(nets_by_hand(many, after), nets_by_hand(many, sheet))
        self.assertEqual(ends_of(after, purses), ends_of(sheet, purses))
        taken = [due[3] - rest for due, rest in zip(sheet, left)]
        ahead = paid_by_hand(sheet, lays)
        behind = paid_by_hand(after, [fraction(lay) for lay in cleared(after, purses)])
        self.assertEqual(behind, [one - off for one, off in zip(ahead, taken)])
        return left

    def test_no_dues(self):
        self.assertEqual(self.check([], [0]), [])

    def test_a_ring_of_members_that_pay(self):
        self.assertEqual(self.check(whole_ring(3, 5), [0, 0, 0]), [0, 0, 0])
        self.assertEqual(self.check([(0, 1, 0, 5), (1, 2, 1, 3), (2, 0, 2, 4)], [5, 5, 5]), [2, 0, 1])

    def test_a_ring_with_one_that_falls_short_stays(self):
        sheet = [(0, 1, 0, 5), (1, 2, 1, 5), (2, 0, 2, 5), (2, 3, 2, 9)]
        self.assertEqual(self.check(sheet, [0, 0, 0, 0]), [5, 5, 5, 9])
        self.assertEqual(self.check(sheet, [9, 9, 0, 0]), [5, 5, 5, 9])
        self.assertEqual(self.check(sheet, [0, 0, 9, 0]), [0, 0, 0, 9])

    def test_only_the_ring_of_those_that_pay(self):
        sheet = [(0, 1, 0, 5), (1, 0, 0, 4), (2, 0, 0, 3), (0, 2, 0, 3), (2, 1, 0, 8)]
        self.assertEqual(self.check(sheet, [9, 9, 0]), [1, 0, 3, 3, 8])

    def test_dues_of_amount_nought(self):
        self.assertEqual(self.check([(0, 1, 0, 0), (1, 0, 0, 4)], [0, 9]), [0, 4])

    def test_by_chance(self):
        chance = random.Random(71)
        seen = {True: 0, False: 0}
        for turn in range(250):
            many = chance.randrange(1, 10)
            most = chance.choice((2, 30, GREAT))
            sheet = some_sheet(chance, many, chance.randrange(chance.choice((6, 20, 65))), most)
            with self.subTest(turn=turn):
                left = self.check(sheet, some_purses(chance, many, most * chance.choice((1, 4))))
                seen[left == [due[3] for due in sheet]] += 1
        self.assertGreater(min(seen.values()), 30)

    def test_great_sheets(self):
        chance = random.Random(72)
        for most in (0, 1000, GREAT, 100 * GREAT):
            self.check(full_sheet(chance), some_purses(chance, 9, most))

    def test_told_lists_are_new(self):
        sheet = whole_ring(2, 5)
        left = safe_cut(sheet, [0, 0])
        sheet.clear()
        self.assertEqual(left, [0, 0])
        left.clear()
        self.assertEqual(safe_cut(whole_ring(2, 5), [0, 0]), [0, 0])


if __name__ == "__main__":
    unittest.main()
