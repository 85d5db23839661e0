import random
import unittest

from quits.sheets import amounts_of, claims, nets, owes, ranked, with_amounts
from tests.helper import GREAT, full_sheet, some_sheet

SHEET = [(0, 1, 0, 5), (1, 2, 2, 7), (0, 1, 0, 5), (2, 0, 1, 0), (0, 2, 1, 4), (0, 2, 2, 3)]


class SumsTest(unittest.TestCase):
    def test_of_an_empty_sheet(self):
        self.assertEqual(owes(3, []), [0, 0, 0])
        self.assertEqual(claims(3, []), [0, 0, 0])
        self.assertEqual(nets(3, []), [0, 0, 0])
        self.assertEqual(ranked(2, []), [[0, 0, 0], [0, 0, 0]])
        self.assertEqual(owes(1, []), [0])

    def test_by_member(self):
        self.assertEqual(owes(4, SHEET), [17, 7, 0, 0])
        self.assertEqual(claims(4, SHEET), [0, 10, 14, 0])
        self.assertEqual(nets(4, SHEET), [-17, 3, 14, 0])

    def test_by_rank(self):
        self.assertEqual(ranked(4, SHEET), [[10, 4, 3], [0, 0, 7], [0, 0, 0], [0, 0, 0]])

    def test_dues_alike_count_each(self):
        self.assertEqual(owes(2, [(0, 1, 1, 3)] * 4), [12, 0])
        self.assertEqual(claims(2, [(0, 1, 1, 3)] * 4), [0, 12])
        self.assertEqual(ranked(2, [(0, 1, 1, 3)] * 4), [[0, 12, 0], [0, 0, 0]])

    def test_dues_of_amount_nought(self):
        sheet = [(0, 1, 0, 0), (1, 0, 2, 0)]
        self.assertEqual(owes(3, sheet), [0, 0, 0])
        self.assertEqual(claims(3, sheet), [0, 0, 0])
        self.assertEqual(nets(3, sheet), [0, 0, 0])
        self.assertEqual(ranked(3, sheet), [[0, 0, 0]] * 3)

    def test_by_chance(self):
        chance = random.Random(8)
        for turn in range(60):
            many = chance.randrange(1, 10)
            sheet = some_sheet(chance, many, chance.randrange(65), chance.choice((3, GREAT)))
            with self.subTest(turn=turn):
                for member in range(many):
                    out = [due[3] for due in sheet if due[0] == member]
                    back = [due[3] for due in sheet if due[1] == member]
                    self.assertEqual(owes(many, sheet)[member], sum(out))
                    self.assertEqual(claims(many, sheet)[member], sum(back))
                    self.assertEqual(nets(many, sheet)[member], sum(back) - sum(out))
                    for rank in range(3):
                        told = sum(due[3] for due in sheet if due[0] == member and due[2] == rank)
                        self.assertEqual(ranked(many, sheet)[member][rank], told)

    def test_nets_come_to_nought(self):
        sheet = full_sheet(random.Random(3))
        self.assertEqual(sum(nets(9, sheet)), 0)


class AmountsTest(unittest.TestCase):
    def test_amounts_in_order(self):
        self.assertEqual(amounts_of(SHEET), [5, 7, 5, 0, 4, 3])
        self.assertEqual(amounts_of([]), [])

    def test_other_amounts(self):
        self.assertEqual(
            with_amounts(SHEET, [1, 2, 3, 4, 0, 6]),
            [(0, 1, 0, 1), (1, 2, 2, 2), (0, 1, 0, 3), (2, 0, 1, 4), (0, 2, 1, 0), (0, 2, 2, 6)],
        )
        self.assertEqual(with_amounts([], []), [])
        self.assertEqual(with_amounts(SHEET, amounts_of(SHEET)), SHEET)


class OwnListsTest(unittest.TestCase):
    def test_what_is_handed_in_stays(self):
        sheet = list(SHEET)
        amounts = [1, 2, 3, 4, 0, 6]
        for told in (owes, claims, nets, ranked):
            told(4, sheet)
        amounts_of(sheet)
        with_amounts(sheet, amounts)
        self.assertEqual(sheet, SHEET)
        self.assertEqual(amounts, [1, 2, 3, 4, 0, 6])

    def test_what_was_told_stays(self):
        sheet = list(SHEET)
        amounts = amounts_of(sheet)
        told = [owes(4, sheet), claims(4, sheet), nets(4, sheet), ranked(4, sheet), amounts, with_amounts(sheet, amounts)]
        shown = repr(told)
        given = with_amounts(sheet, amounts)
        sheet.append((3, 0, 0, 9))
        sheet[0] = (3, 0, 0, 9)
        self.assertEqual(repr(told), shown)
        amounts[0] = 99
        self.assertEqual(given, SHEET)

    def test_what_was_told_is_the_askers_own(self):
        sheet = list(SHEET)
        with_amounts(sheet, amounts_of(sheet)).clear()
        amounts_of(sheet).clear()
        rows = ranked(4, sheet)
        rows[2][0] = 8
        self.assertEqual(rows[3], [0, 0, 0])
        self.assertEqual(sheet, SHEET)
        self.assertEqual(ranked(4, sheet)[2], [0, 0, 0])


if __name__ == "__main__":
    unittest.main()
