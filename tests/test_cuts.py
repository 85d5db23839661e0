import random
import unittest

from quits.cuts import cut
from quits.nets import paired
from tests.helper import GREAT, full_sheet, has_ring, is_ring, nets_by_hand, put_in, some_sheet, whole_ring


class CutTest(unittest.TestCase):
    def check(self, many, sheet):
        kept = list(sheet)
        told = cut(many, sheet)
        self.assertEqual(sheet, kept)
        self.assertIs(type(told), tuple)
        left, cuts = told
        self.assertEqual([type(left), type(cuts)], [list, list])
        amounts = [due[3] for due in sheet]
        for each in cuts:
            self.assertIs(type(each), tuple)
            ring, fewest = each
            self.assertIs(type(ring), list)
            self.assertTrue(is_ring(put_in(sheet, amounts), ring))
            self.assertEqual(fewest, min(amounts[number] for number in ring))
            for number in ring:
                amounts[number] -= fewest
        self.assertEqual(left, amounts)
        self.assertFalse(has_ring(many, put_in(sheet, left)))
        self.assertEqual(nets_by_hand(many, put_in(sheet, left)), nets_by_hand(many, sheet))
        return told

    def test_nothing_to_cut(self):
        self.assertEqual(self.check(1, []), ([], []))
        self.assertEqual(self.check(3, [(0, 1, 0, 5), (1, 2, 0, 5), (0, 2, 1, 5)]), ([5, 5, 5], []))
        self.assertEqual(self.check(2, [(0, 1, 0, 5), (1, 0, 0, 0)]), ([5, 0], []))

    def test_one_ring(self):
        left, cuts = self.check(3, [(0, 1, 0, 5), (1, 2, 1, 3), (2, 0, 2, 4)])
        self.assertEqual(left, [2, 0, 1])
        self.assertEqual([(sorted(ring), fewest) for ring, fewest in cuts], [([0, 1, 2], 3)])

    def test_two_members_both_ways(self):
        left, cuts = self.check(2, [(0, 1, 0, 5), (1, 0, 2, 5)])
        self.assertEqual(left, [0, 0])
        self.assertEqual(len(cuts), 1)

    def test_dues_alike(self):
        left, cuts = self.check(2, [(0, 1, 0, 5), (0, 1, 0, 5), (1, 0, 0, 7)])
        self.assertEqual(sum(left), 3)

    def test_rings_that_cross(self):
        self.check(4, [(0, 1, 0, 5), (1, 0, 0, 2), (1, 2, 0, 9), (2, 3, 0, 9), (3, 1, 0, 4), (3, 0, 0, 8), (2, 1, 1, 1)])

    def test_a_ring_of_nine(self):
        left, cuts = self.check(9, whole_ring(9, GREAT))
        self.assertEqual(left, [0] * 9)
        self.assertEqual(cuts[0][1], GREAT)

    def test_by_chance(self):
        chance = random.Random(15)
        for turn in range(300):
            many = chance.randrange(1, 10)
            sheet = some_sheet(chance, many, chance.randrange(chance.choice((5, 20, 65))), chance.choice((2, 50, GREAT)))
            with self.subTest(turn=turn):
                self.check(many, sheet)

    def test_great_sheets_end_in_time(self):
        chance = random.Random(16)
        for turn in range(10):
            sheet = full_sheet(chance)
            self.check(9, sheet)
            self.check(9, paired(9, sheet))

    def test_told_lists_are_new(self):
        sheet = whole_ring(3, 4)
        left, cuts = cut(3, sheet)
        cuts[0][0].clear()
        left.clear()
        sheet[0] = (0, 1, 0, 2)
        self.assertEqual(self.check(3, sheet)[0], [0, 2, 2])


if __name__ == "__main__":
    unittest.main()
