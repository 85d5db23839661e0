import random
import unittest

from quits.nets import housed, paired
from tests.helper import GREAT, full_sheet, nets_by_hand, some_sheet


class PairedTest(unittest.TestCase):
    def test_of_an_empty_sheet(self):
        self.assertEqual(paired(1, []), [])
        self.assertEqual(paired(9, []), [])

    def test_both_ways_in_one_rank(self):
        self.assertEqual(paired(2, [(0, 1, 1, 5), (1, 0, 1, 3)]), [(0, 1, 1, 2)])
        self.assertEqual(paired(2, [(0, 1, 1, 3), (1, 0, 1, 5)]), [(1, 0, 1, 2)])

    def test_several_ranks_stay_apart(self):
        sheet = [(0, 1, 2, 5), (1, 0, 0, 5), (1, 0, 2, 1), (0, 1, 1, 4)]
        self.assertEqual(paired(2, sheet), [(1, 0, 0, 5), (0, 1, 1, 4), (0, 1, 2, 4)])

    def test_sums_alike_leave_no_due(self):
        self.assertEqual(paired(2, [(0, 1, 0, 2), (0, 1, 0, 3), (1, 0, 0, 5)]), [])
        self.assertEqual(paired(2, [(0, 1, 0, 0), (1, 0, 0, 0)]), [])
        self.assertEqual(paired(2, [(1, 0, 2, 0)]), [])

    def test_dues_alike_come_together(self):
        self.assertEqual(paired(3, [(2, 1, 1, 5)] * 3), [(2, 1, 1, 15)])

    def test_the_order(self):
        sheet = [(3, 2, 1, 1), (2, 3, 0, 1), (3, 0, 0, 1), (1, 2, 0, 1), (2, 0, 0, 1), (0, 1, 0, 1), (1, 0, 2, 1), (3, 1, 0, 1)]
        self.assertEqual(paired(4, sheet), [
            (0, 1, 0, 1), (2, 0, 0, 1), (3, 0, 0, 1), (1, 2, 0, 1), (3, 1, 0, 1), (2, 3, 0, 1), (3, 2, 1, 1), (1, 0, 2, 1),
        ])

    def test_by_chance(self):
        chance = random.Random(9)
        for turn in range(80):
            many = chance.randrange(1, 10)
            sheet = some_sheet(chance, many, chance.randrange(65), chance.choice((2, 9, GREAT)))
            kept = list(sheet)
            made = paired(many, sheet)
            with self.subTest(turn=turn):
                self.assertEqual(sheet, kept)
                self.assertEqual(nets_by_hand(many, made), nets_by_hand(many, sheet))
                self.assertEqual(paired(many, made), made)
                keys = [(rank, min(payer, payee), max(payer, payee)) for payer, payee, rank, amount in made]
                self.assertEqual(keys, sorted(set(keys)))
                for payer, payee, rank, amount in made:
                    there = sum(due[3] for due in sheet if due[:3] == (payer, payee, rank))
                    back = sum(due[3] for due in sheet if due[:3] == (payee, payer, rank))
                    self.assertEqual(amount, there - back)
                    self.assertGreater(amount, 0)
                for rank in range(3):
                    for one in range(many):
                        for other in range(one):
                            there = sum(due[3] for due in sheet if due[:3] == (one, other, rank))
                            back = sum(due[3] for due in sheet if due[:3] == (other, one, rank))
                            self.assertEqual((rank, other, one) in keys, there != back)

    def test_sixty_four_great_dues_of_one_pair(self):
        self.assertEqual(paired(2, [(1, 0, 0, GREAT)] * 64), [(1, 0, 0, 64 * GREAT)])

    def test_what_was_told_stays(self):
        sheet = [(0, 1, 1, 5)]
        made = paired(2, sheet)
        sheet[0] = (1, 0, 0, 9)
        self.assertEqual(made, [(0, 1, 1, 5)])
        made.clear()
        self.assertEqual(paired(2, sheet), [(1, 0, 0, 9)])


class HousedTest(unittest.TestCase):
    def test_of_an_empty_sheet(self):
        self.assertEqual(housed(1, []), [])
        self.assertEqual(housed(8, []), [])

    def test_nets_below_above_and_nought(self):
        sheet = [(0, 1, 2, 5), (1, 2, 1, 5), (3, 0, 0, 2)]
        self.assertEqual(housed(4, sheet), [(0, 4, 0, 3), (4, 2, 0, 5), (3, 4, 0, 2)])

    def test_a_ring_leaves_nothing(self):
        self.assertEqual(housed(3, [(0, 1, 0, 4), (1, 2, 1, 4), (2, 0, 2, 4)]), [])

    def test_dues_of_amount_nought(self):
        self.assertEqual(housed(2, [(0, 1, 0, 0)]), [])

    def test_by_chance(self):
        chance = random.Random(10)
        for turn in range(80):
            many = chance.randrange(1, 9)
            sheet = some_sheet(chance, many, chance.randrange(65), chance.choice((2, 9, GREAT)))
            kept = list(sheet)
            made = housed(many, sheet)
            with self.subTest(turn=turn):
                self.assertEqual(sheet, kept)
                self.assertEqual(nets_by_hand(many + 1, made), nets_by_hand(many, sheet) + [0])
                members = [due[0] if due[1] == many else due[1] for due in made]
                self.assertEqual(members, sorted(set(members)))
                for payer, payee, rank, amount in made:
                    self.assertIn(many, (payer, payee))
                    self.assertEqual(rank, 0)
                    self.assertGreater(amount, 0)

    def test_housed_again_it_is_a_sheet_of_one_member_more(self):
        made = housed(7, full_sheet(random.Random(4), 7))
        self.assertEqual(nets_by_hand(9, housed(8, made))[:7], nets_by_hand(7, made))

    def test_what_was_told_stays(self):
        sheet = [(0, 1, 1, 5)]
        made = housed(2, sheet)
        sheet[0] = (1, 0, 0, 9)
        self.assertEqual(made, [(0, 2, 0, 5), (2, 1, 0, 5)])


if __name__ == "__main__":
    unittest.main()
