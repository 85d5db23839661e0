import random
import unittest

from quits.reports import statement
from quits.settling import settled_day
from tests.helper import GREAT, fraction, got_by_hand, owes_by_hand, put_in, some_purses, some_sheet


def as_tuples(told):
    return tuple(as_tuples(each) for each in told) if isinstance(told, (list, tuple)) else told


def report_of(day, sheet, purses, pledges, shares, own, order):
    return as_tuples((day, sheet) + settled_day(sheet, purses, pledges, shares, own, order))


class StatementTest(unittest.TestCase):
    def test_one_that_pays_in_full(self):
        report = report_of(3, [(0, 1, 0, 5), (1, 0, 1, 3)], [2, 0], [0, 0], [0, 0], 0, [])
        self.assertEqual(statement(report, 0), (5, 3, 3, 0, 0, (2, 1), (0, 1), (0, 1)))
        self.assertEqual(statement(report, 1), (3, 5, 3, 0, 0, (0, 1), (2, 1), (2, 1)))

    def test_one_that_is_given_coins_and_one_that_bears_them(self):
        report = report_of(0, [(0, 1, 0, 9)], [2, 0], [4, 4], [1, 2], 5, ["pledge", "share", "others"])
        self.assertEqual(statement(report, 0), (9, 0, 0, 7, 5, (9, 1), (0, 1), (0, 1)))
        self.assertEqual(statement(report, 1), (0, 9, 0, 0, 2, (0, 1), (9, 1), (9, 1)))

    def test_one_that_falls_short(self):
        report = report_of(0, [(0, 1, 0, 2), (0, 2, 0, 4), (1, 2, 1, 3)], [1, 0, 0], [0] * 3, [0] * 3, 0, ["own"])
        self.assertEqual(statement(report, 0), (6, 0, 0, 0, 0, (1, 1), (0, 1), (0, 1)))
        self.assertEqual(statement(report, 1), (3, 2, 0, 0, 0, (1, 3), (1, 3), (0, 1)))
        self.assertEqual(statement(report, 2), (0, 7, 0, 0, 0, (0, 1), (1, 1), (1, 1)))

    def test_no_dues(self):
        report = report_of(0, [], [4], [0], [0], 0, [])
        self.assertEqual(statement(report, 0), (0, 0, 0, 0, 0, (0, 1), (0, 1), (4, 1)))

    def test_by_chance(self):
        chance = random.Random(131)
        for turn in range(100):
            many = chance.randrange(1, 10)
            most = chance.choice((3, 30, GREAT))
            sheet = some_sheet(chance, many, chance.randrange(40), most)
            purses, pledges, shares = [some_purses(chance, many, most) for each in range(3)]
            order = chance.sample(("pledge", "share", "own", "others", "level"), chance.randrange(6))
            report = report_of(turn, sheet, purses, pledges, shares, chance.randrange(most), order)
            day, same, gaps, rows, rests, left, lays, ends, outs = report
            gains = got_by_hand(put_in(sheet, left), [fraction(lay) for lay in lays])
            for member in range(many):
                told = statement(report, member)
                with self.subTest(turn=turn, member=member):
                    self.assertIs(type(told), tuple)
                    self.assertEqual([type(one) for one in told], [int] * 5 + [tuple] * 3)
                    owed, claimed, off, given, borne, lay, got, end = told
                    self.assertEqual(owed, owes_by_hand(many, sheet)[member])
                    self.assertEqual(claimed, sum(due[3] for due in sheet if due[1] == member))
                    self.assertEqual(off, owed - owes_by_hand(many, put_in(sheet, left))[member])
                    self.assertEqual(given, sum(row[1][member] for row in rows))
                    self.assertEqual(borne, sum(row[2][member] for row in rows))
                    self.assertEqual((lay, end), (lays[member], ends[member]))
                    self.assertEqual(fraction(got), gains[member])
                    self.assertEqual(purses[member] + given + fraction(got) - fraction(lay), fraction(end))
            self.assertEqual(report, (day, same, gaps, rows, rests, left, lays, ends, outs))


if __name__ == "__main__":
    unittest.main()
