"""What holds over the whole program (promise 4), with all modules at work together."""

import random
import unittest

from quits.clearing import cleared, ends_of
from quits.cuts import cut
from quits.house import House
from quits.layers import gaps_of
from quits.nets import housed, paired
from quits.reports import statement
from quits.roads import roads
from quits.safe import safe_cut
from quits.sheets import nets, with_amounts
from quits.thin import thinned
from tests.helper import GREAT, fraction, full_sheet, has_ring, some_purses, some_sheet

WORDS = ("pledge", "share", "own", "others", "level")


class LackingTest(unittest.TestCase):
    def test_it_is_the_same_however_dues_are_set_against_one_another(self):
        chance = random.Random(151)
        for turn in range(100):
            many = chance.randrange(1, 9)
            most = chance.choice((3, 30, GREAT))
            sheet = some_sheet(chance, many, chance.randrange(65), most)
            purses = some_purses(chance, many, most)
            gaps = gaps_of(sheet, purses)
            with self.subTest(turn=turn):
                self.assertEqual(gaps_of(paired(many, sheet), purses), gaps)
                self.assertEqual(gaps_of(housed(many, sheet), purses + [0]), gaps + [0])
                for left in (cut(many, sheet)[0], thinned(many, sheet)[0], safe_cut(sheet, purses)):
                    self.assertEqual(gaps_of(with_amounts(sheet, left), purses), gaps)

    def test_all_is_paid_just_where_nobody_lacks_anything(self):
        chance = random.Random(152)
        for turn in range(100):
            many = chance.randrange(1, 10)
            sheet = some_sheet(chance, many, chance.randrange(20), 9)
            purses = some_purses(chance, many, 40)
            with self.subTest(turn=turn):
                in_full = all(road == [] for road in roads(sheet, purses))
                self.assertEqual(in_full, gaps_of(sheet, purses) == [0] * many)
                if in_full:
                    ends = [(net + purse, 1) for net, purse in zip(nets(many, sheet), purses)]
                    self.assertEqual(ends_of(sheet, purses), ends)


class GreatTest(unittest.TestCase):
    def test_the_greatest_sheets_go_through_all_of_it(self):
        chance = random.Random(153)
        for turn in range(3):
            sheet = full_sheet(chance, 8)
            purses = some_purses(chance, 8, GREAT)
            for made, some in ((sheet, purses), (paired(8, sheet), purses), (housed(8, sheet), purses + [0])):
                left = safe_cut(made, some)
                self.assertEqual(ends_of(with_amounts(made, left), some), ends_of(made, some))
                self.assertFalse(has_ring(len(some), with_amounts(made, thinned(len(some), made)[0])))
                self.assertEqual(sum(fraction(end) for end in ends_of(made, some)), sum(some))
                self.assertEqual(len(cleared(made, some)), len(some))


class HouseTest(unittest.TestCase):
    def strike_some(self, chance, house, count):
        for number in range(count):
            payer, payee = chance.sample(range(5), 2)
            if not house.is_out(payer) and not house.is_out(payee):
                day = house.today() + chance.randrange(2)
                house.strike(payer, payee, chance.randrange(2), 1, chance.randrange(1, 300), day, chance.randrange(3))

    def test_days_of_a_house(self):
        for seed in range(12):
            chance = random.Random(seed)
            members = [(chance.randrange(300), 500, chance.randrange(60)) for member in range(5)]
            order = chance.sample(WORDS, chance.randrange(6))
            # Prices never moved, so no pledge is ever too small and all of them may be borne.
            house = House(members, [[0, 0]] * 3, ("mean", 3), order, 40)
            came = house.coins()
            kept = []
            for day in range(6):
                self.strike_some(chance, house, 8)
                purses = [house.purse(member) for member in range(5)]
                report = house.close()
                kept.append(report)
                with self.subTest(seed=seed, day=day):
                    self.assertEqual(house.coins(), came)
                    self.assertEqual([house.report(number) for number in range(day + 1)], kept)
                    self.check_report(report, purses)

    def check_report(self, report, purses):
        day, sheet, gaps, rows, rests, left, lays, ends, outs = report
        self.assertEqual(all(rest == 0 for rest in rests), outs == ())
        self.assertEqual(list(gaps), gaps_of(list(sheet), purses))
        statements = [statement(report, member) for member in range(5)]
        for member, told in enumerate(statements):
            owed, claimed, off, given, borne, lay, got, end = told
            self.assertEqual(purses[member] + given + fraction(got) - fraction(lay), fraction(end))
            in_full = fraction(lay) == owed - off
            self.assertEqual(in_full, member not in outs)
            self.assertTrue(in_full or end == (0, 1))
            self.assertEqual(gaps[member] - rests[member], given)
        self.assertEqual(sum(told[0] for told in statements), sum(told[1] for told in statements))
        own = sum(row[2][-1] for row in rows)
        self.assertEqual(sum(told[3] for told in statements), sum(told[4] for told in statements) + own)


if __name__ == "__main__":
    unittest.main()
