import random
import unittest

from quits.errors import Ringed
from quits.nets import housed, paired
from quits.rings import a_ring, lined
from tests.helper import GREAT, full_sheet, has_ring, is_ring, some_sheet, whole_ring

WITHOUT = (
    (1, []),
    (9, []),
    (2, [(0, 1, 0, 3)]),
    (2, [(0, 1, 0, 3), (0, 1, 2, 3), (0, 1, 0, 3)]),
    (2, [(0, 1, 0, 3), (1, 0, 0, 0)]),
    (3, [(0, 1, 0, 0), (1, 2, 0, 0), (2, 0, 0, 0)]),
    (3, [(0, 1, 0, 5), (1, 2, 0, 5), (2, 0, 1, 0)]),
    (3, [(2, 1, 0, 5), (1, 0, 0, 5), (2, 0, 1, 4)]),
    (9, [(8 - member, 7 - member, 0, 1) for member in range(8)]),
)
WITH = (
    (2, [(0, 1, 0, 3), (1, 0, 0, 1)]),
    (2, [(0, 1, 0, 3), (1, 0, 2, 1)]),
    (2, [(0, 1, 0, 0), (0, 1, 0, 3), (1, 0, 1, 0), (1, 0, 2, 1), (1, 0, 2, 1)]),
    (3, [(0, 1, 0, 3), (1, 2, 1, 3), (2, 0, 2, 3)]),
    (9, whole_ring(9, GREAT)),
    (9, [(8, 3, 0, 1), (3, 5, 0, 1), (5, 6, 1, 1), (6, 5, 2, 1), (6, 1, 0, 9)]),
    (4, [(0, 1, 0, 1), (1, 2, 0, 1), (2, 3, 0, 1), (3, 2, 0, 1)]),
)


class RingsCase(unittest.TestCase):
    def check(self, many, sheet):
        kept = list(sheet)
        ring = a_ring(many, sheet)
        self.assertIs(type(ring), list)
        if has_ring(many, sheet):
            self.assertTrue(is_ring(sheet, ring), (sheet, ring))
            with self.assertRaises(Ringed):
                lined(many, sheet)
        else:
            self.assertEqual(ring, [])
            self.check_line(many, sheet, lined(many, sheet))
        self.assertEqual(sheet, kept)

    def check_line(self, many, sheet, line):
        self.assertIs(type(line), list)
        self.assertEqual(sorted(line), list(range(many)))
        for payer, payee, rank, amount in sheet:
            if amount > 0:
                self.assertLess(line.index(payer), line.index(payee))


class RingsTest(RingsCase):
    def test_without_a_ring(self):
        for many, sheet in WITHOUT:
            with self.subTest(sheet=sheet):
                self.assertEqual(a_ring(many, sheet), [])
                self.check(many, sheet)

    def test_with_a_ring(self):
        for many, sheet in WITH:
            with self.subTest(sheet=sheet):
                self.assertTrue(is_ring(sheet, a_ring(many, sheet)))
                self.check(many, sheet)

    def test_all_sheets_of_few_dues_among_three(self):
        pairs = [(payer, payee) for payer in range(3) for payee in range(3) if payer != payee]
        for made in range(3 ** len(pairs)):
            sheet = []
            for payer, payee in pairs:
                made, amount = divmod(made, 3)
                if amount > 0:
                    sheet.append((payer, payee, 0, amount - 1))
            self.check(3, sheet)

    def test_by_chance(self):
        chance = random.Random(11)
        for turn in range(600):
            many = chance.randrange(1, 10)
            sheet = some_sheet(chance, many, chance.randrange(chance.choice((4, 12, 65))), chance.choice((2, GREAT)))
            with self.subTest(turn=turn):
                self.check(many, sheet)

    def test_great_sheets(self):
        chance = random.Random(12)
        for turn in range(10):
            self.check(9, full_sheet(chance))

    def test_a_great_sheet_without_a_ring(self):
        chance = random.Random(13)
        order = chance.sample(range(9), 9)
        sheet = []
        while len(sheet) < 64:
            ahead, behind = sorted(chance.sample(range(9), 2))
            sheet.append((order[ahead], order[behind], chance.randrange(3), chance.randrange(GREAT)))
        self.assertEqual(a_ring(9, sheet), [])
        self.check(9, sheet)

    def test_of_paired_and_housed_sheets(self):
        chance = random.Random(14)
        for turn in range(20):
            sheet = full_sheet(chance, 8)
            self.check(8, paired(8, sheet))
            self.check(9, housed(8, sheet))

    def test_told_lists_are_new(self):
        sheet = whole_ring(4, 5)
        a_ring(4, sheet).clear()
        self.assertTrue(is_ring(sheet, a_ring(4, sheet)))
        line = lined(3, [(2, 1, 0, 4)])
        line.clear()
        self.check(3, [(2, 1, 0, 4)])


if __name__ == "__main__":
    unittest.main()
