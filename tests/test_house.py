import copy
import random
import unittest

from quits.errors import (
    Bare, Closed, Gone, NoDeal, NoLayer, NoMember, NoRule, NoTerms, Out, Poor, QuitsError, Settled, Standing, Unclosed,
)
from quits.house import House
from quits.needs import need_of
from quits.reports import statement
from quits.settling import settled_day
from tests.helper import fraction

FAR = 10 ** 59
WORDS = ["pledge", "share", "own", "others", "level"]
# Of one ware: the need of a position of units u is 2 * u below a fall, 3 * -u below a rise.
MOVES = [[-2], [3], [0]]
RULE = ("worst", 1)


def shown(house, many):
    """All that a house tells."""
    days = range(-1, house.today() + 4)
    deals = []
    while True:
        try:
            deals.append(house.deal(len(deals)))
        except NoDeal:
            break
    reports = [house.report(day) for day in range(house.today())]
    by_member = [
        (
            house.purse(member), house.pledge(member), house.share(member), house.need(member), house.is_out(member),
            house.entries(member), house.position(member),
        )
        for member in range(many)
    ]
    return (house.today(), house.own(), house.coins(), by_member, deals, [house.sheet_on(day) for day in days], reports)


def only_tuples(told):
    if type(told) is tuple:
        return all(only_tuples(each) for each in told)
    return type(told) in (int, str)


class HouseCase(unittest.TestCase):
    def refused(self, error, house, deed, *terms):
        many = len(house.purses)
        ahead = shown(house, many)
        with self.assertRaises(error) as taken:
            deed(*terms)
        self.assertIs(type(taken.exception), error)
        self.assertEqual(shown(house, many), ahead)


class MadeTest(HouseCase):
    def test_a_new_house(self):
        house = House([(5, 6, 7), (0, 0, 0)], [[1, 2], [3, 4]], ("mean", 2), ["own"], 9)
        self.assertEqual([house.purse(0), house.pledge(0), house.share(0), house.own(), house.coins()], [5, 6, 7, 9, 27])
        self.assertEqual([house.purse(1), house.pledge(1), house.share(1)], [0, 0, 0])
        self.assertEqual(house.today(), 0)
        self.assertEqual(house.position(1), [0, 0])
        self.assertEqual(house.entries(0), [])
        self.assertEqual(house.sheet_on(0), [])
        self.assertEqual(house.need(0), (0, 1))
        self.assertIs(house.is_out(0), False)

    def test_the_greatest_and_the_least(self):
        great = 10 ** 9
        house = House([(great, great, great)] * 8, [[999999] * 4] * 30, ("worst", 30), WORDS, great)
        self.assertEqual(house.coins(), 25 * great)
        self.assertEqual(House([(0, 0, 0)], [[0]], ("mean", 1), [], 0).coins(), 0)

    def test_no_rule_ahead_of_no_layer(self):
        members = [(0, 0, 0)]
        for rule in (("best", 1), ("worst", 0), ("mean", 4), ("worst", -1), ("mean", FAR), ("", 1)):
            for order in (WORDS, ["own", "own"], ["none"]):
                with self.subTest(rule=rule, order=order):
                    with self.assertRaises(NoRule):
                        House(members, MOVES, rule, order, 0)
        for order in (["own", "own"], ["none"], WORDS + ["pledge"]):
            with self.assertRaises(NoLayer):
                House(members, MOVES, ("mean", 3), order, 0)

    def test_what_is_handed_in_stays_and_may_be_changed(self):
        handed = ([(9, 9, 9), (9, 9, 9)], [[-2], [3]], ["pledge"])
        kept = copy.deepcopy(handed)
        house = House(handed[0], handed[1], RULE, handed[2], 9)
        house.strike(0, 1, 0, 2, 20, 0, 0)
        ahead = house.need(0)
        self.assertEqual(handed, kept)
        handed[0].clear()
        handed[1][0][0] = -50
        handed[2].append("own")
        self.assertEqual(house.need(0), ahead)
        house.put(0, 1)
        self.assertEqual([row[0] for row in house.close()[3]], ["pledge"])

    def test_nothing_done_to_one_house_changes_another(self):
        members = [(9, 9, 9), (9, 9, 9)]
        one, other = House(members, MOVES, RULE, WORDS, 9), House(members, MOVES, RULE, WORDS, 9)
        ahead = shown(other, 2)
        one.put(0, 5)
        one.strike(0, 1, 0, 1, 50, 0, 0)
        one.close()
        self.assertEqual(shown(other, 2), ahead)


class CoinsTest(HouseCase):
    def setUp(self):
        self.house = House([(10, 6, 1), (0, 20, 2)], MOVES, RULE, WORDS, 5)

    def coins(self, member):
        return (self.house.purse(member), self.house.pledge(member), self.house.share(member))

    def test_the_four_moves(self):
        self.assertIsNone(self.house.put(0, 10 ** 9))
        self.assertEqual(self.coins(0), (10 ** 9 + 10, 6, 1))
        self.assertEqual(self.house.coins(), 10 ** 9 + 44)
        self.assertIsNone(self.house.take(0, 10 ** 9))
        self.assertIsNone(self.house.lay(0, 4))
        self.assertEqual(self.coins(0), (6, 10, 1))
        self.assertIsNone(self.house.free(0, 10))
        self.assertEqual(self.coins(0), (16, 0, 1))
        self.assertEqual(self.coins(1), (0, 20, 2))
        self.assertEqual(self.house.coins(), 44)
        self.assertEqual(self.house.own(), 5)

    def test_moves_of_nought(self):
        ahead = shown(self.house, 2)
        for deed in (self.house.put, self.house.take, self.house.lay, self.house.free):
            deed(1, 0)
        self.assertEqual(shown(self.house, 2), ahead)

    def test_no_member(self):
        for deed in (self.house.put, self.house.take, self.house.lay, self.house.free):
            for member in (-1, 2, FAR, -FAR):
                for coins in (1, -1, FAR):
                    self.refused(NoMember, self.house, deed, member, coins)

    def test_no_terms(self):
        for deed in (self.house.put, self.house.take, self.house.lay, self.house.free):
            for coins in (-1, 10 ** 9 + 1, FAR, -FAR):
                self.refused(NoTerms, self.house, deed, 0, coins)

    def test_poor(self):
        self.refused(Poor, self.house, self.house.take, 0, 11)
        self.refused(Poor, self.house, self.house.lay, 0, 11)
        self.refused(Poor, self.house, self.house.take, 1, 1)
        self.refused(Poor, self.house, self.house.free, 0, 7)
        self.refused(Poor, self.house, self.house.free, 1, 10 ** 9)
        self.house.take(0, 10)
        self.assertEqual(self.coins(0), (0, 6, 1))

    def test_bare(self):
        self.house.strike(0, 1, 0, 3, 1, 5, 0)
        self.assertEqual(self.house.need(0), (6, 1))
        self.assertEqual(self.house.need(1), (9, 1))
        self.refused(Bare, self.house, self.house.free, 0, 1)
        self.refused(Poor, self.house, self.house.free, 0, 7)
        self.house.free(0, 0)
        self.house.free(1, 11)
        self.refused(Bare, self.house, self.house.free, 1, 1)
        self.house.break_off(0)
        self.house.free(1, 9)
        self.assertEqual(self.coins(1), (20, 0, 2))

    def test_bare_where_the_need_is_no_whole_number(self):
        house = House([(0, 9, 0), (0, 9, 0)], [[-2], [-3], [0]], ("mean", 2), [], 0)
        house.strike(0, 1, 0, 1, 1, 5, 0)
        self.assertEqual(house.need(0), (5, 2))
        self.refused(Bare, house, house.free, 0, 7)
        house.free(0, 6)
        self.assertEqual(house.pledge(0), 3)


class DealsTest(HouseCase):
    def setUp(self):
        self.house = House([(10, 6, 1), (0, 9, 2), (5, 100, 0)], MOVES, RULE, [], 5)

    def test_as_in_a_book(self):
        self.assertEqual(self.house.strike(0, 1, 0, 1, 4, 0, 2), 0)
        self.assertEqual(self.house.strike(0, 2, 0, 2, 3, 1, 1), 1)
        self.assertEqual(self.house.deal(1), (0, 2, 0, 2, 3, 1, 1, "standing"))
        self.assertIsNone(self.house.change(1, 10 ** 9, 3))
        self.assertEqual(self.house.deal(1), (0, 2, 0, 2, 10 ** 9, 3, 1, "standing"))
        self.assertIsNone(self.house.break_off(1))
        self.assertEqual(self.house.deal(1)[7], "broken")
        self.assertEqual(self.house.sheet_on(0), [(0, 1, 2, 4)])
        self.assertEqual(self.house.entries(1), [(0, 0, 4)])
        self.assertEqual(self.house.position(1), [-1])
        self.house.close()
        self.assertEqual(self.house.contrary(0, 1), 2)
        self.assertEqual(self.house.deal(2), (1, 0, 0, 1, 4, 1, 2, "standing"))

    def test_refused_as_in_a_book(self):
        house = self.house
        self.refused(NoMember, house, house.strike, 0, 3, 0, 1, 4, 0, 2)
        self.refused(NoMember, house, house.strike, -1, 0, 0, 1, 4, 0, 2)
        self.refused(NoMember, house, house.strike, 1, 1, 9, 0, 0, -1, 3)
        for terms in ((1, 1, 1, 0, 0), (0, 0, 1, 0, 0), (0, 1, 0, 0, 0), (0, 1, 1, -1, 0), (0, 1, 1, 0, 3), (0, 10 ** 6 + 1, 1, 0, 0)):
            self.refused(NoTerms, house, house.strike, 0, 1, *terms)
        self.refused(NoDeal, house, house.change, 0, 0, 0)
        self.refused(NoDeal, house, house.break_off, -1)
        self.refused(NoDeal, house, house.contrary, FAR, 0)
        self.refused(NoDeal, house, house.deal, 0)
        house.strike(0, 1, 0, 1, 4, 0, 2)
        self.refused(NoTerms, house, house.change, 0, 0, 0)
        self.refused(Standing, house, house.contrary, 0, -1)
        house.close()
        self.refused(Settled, house, house.change, 0, 0, -1)
        self.refused(Settled, house, house.break_off, 0)
        self.refused(Closed, house, house.strike, 0, 1, 0, 1, 4, 0, 2)
        self.refused(Closed, house, house.contrary, 0, 0)
        self.refused(NoTerms, house, house.contrary, 0, -1)
        house.contrary(0, 2)
        self.refused(Closed, house, house.change, 1, 1, 0)
        house.break_off(1)
        self.refused(Gone, house, house.change, 1, 0, -1)
        self.refused(Gone, house, house.break_off, 1)
        self.refused(Gone, house, house.contrary, 1, -1)

    def test_bare_for_either_member(self):
        self.refused(Bare, self.house, self.house.strike, 0, 2, 0, 4, 1, 0, 0)
        self.refused(Bare, self.house, self.house.strike, 2, 1, 0, 4, 1, 0, 0)
        self.house.strike(0, 1, 0, 3, 1, 0, 0)
        self.assertEqual([self.house.need(member) for member in range(3)], [(6, 1), (9, 1), (0, 1)])
        self.refused(Bare, self.house, self.house.strike, 0, 2, 0, 1, 1, 0, 0)

    def test_bare_though_the_need_fell(self):
        # Half of member 0's pledge is spent while it still needs 8; a deal that brings the need down to 6 is refused
        # all the same.
        house = House([(0, 10, 0), (9, 99, 0)], MOVES, RULE, ["pledge"], 0)
        house.strike(0, 1, 0, 4, 1, 5, 0)
        house.strike(0, 1, 0, 1, 5, 0, 0)
        house.close()
        self.assertEqual((house.pledge(0), house.need(0), house.is_out(0)), (5, (8, 1), False))
        self.refused(Bare, house, house.strike, 1, 0, 0, 1, 1, 5, 0)
        self.assertEqual(house.strike(1, 0, 0, 2, 1, 5, 0), 2)
        self.assertEqual(house.need(0), (4, 1))

    def test_changing_and_breaking_off_ask_nothing_of_pledges(self):
        house = House([(0, 8, 0), (9, 99, 0)], MOVES, RULE, ["pledge"], 0)
        house.strike(0, 1, 0, 4, 8, 0, 0)
        house.break_off(0)
        house.strike(0, 1, 0, 1, 8, 0, 0)
        house.strike(0, 1, 0, 3, 8, 1, 0)
        house.close()
        self.assertEqual((house.pledge(0), house.need(0)), (0, (6, 1)))
        house.change(2, 10, 2)
        self.assertEqual(house.deal(2)[4:6], (10, 2))
        house.break_off(2)

    def test_out(self):
        house = self.house
        house.put(2, 2)
        house.strike(0, 1, 0, 1, 100, 0, 0)
        house.strike(0, 2, 0, 1, 7, 3, 0)
        house.strike(2, 1, 0, 1, 7, 3, 0)
        house.strike(2, 0, 0, 1, 7, 0, 0)
        self.assertEqual(house.close()[8], (0,))
        self.assertEqual([house.is_out(member) for member in range(3)], [True, False, False])
        self.assertEqual([house.deal(number)[7] for number in range(4)], ["settled", "broken", "standing", "settled"])
        self.refused(Out, house, house.strike, 0, 1, 0, 1, 1, 1, 0)
        self.refused(Out, house, house.strike, 1, 0, 0, 1, 1, 1, 0)
        self.refused(Out, house, house.strike, 1, 0, 9, 0, 0, -1, 9)
        self.refused(NoMember, house, house.strike, 0, 0, 0, 1, 1, 1, 0)
        self.refused(NoMember, house, house.strike, 0, 3, 0, 1, 1, 1, 0)
        self.refused(Out, house, house.contrary, 0, -1)
        self.refused(Out, house, house.contrary, 3, 0)
        self.refused(Gone, house, house.contrary, 1, -1)
        self.refused(Standing, house, house.contrary, 2, -1)
        self.refused(NoDeal, house, house.contrary, 4, -1)
        house.strike(1, 2, 0, 1, 1, 1, 0)

    def test_no_terms_and_closed_ahead_of_bare(self):
        house = self.house
        house.close()
        self.refused(NoTerms, house, house.strike, 0, 2, 0, 4, 0, 1, 0)
        self.refused(Closed, house, house.strike, 0, 2, 0, 4, 1, 0, 0)
        self.refused(Bare, house, house.strike, 0, 2, 0, 4, 1, 1, 0)

    def test_contrary_refused_with_bare(self):
        house = self.house
        house.strike(1, 0, 0, 2, 4, 0, 2)
        house.put(1, 9)
        house.close()
        house.free(0, 3)
        self.refused(NoTerms, house, house.contrary, 0, 10 ** 6 + 1)
        self.refused(Closed, house, house.contrary, 0, 0)
        self.refused(Bare, house, house.contrary, 0, 1)
        house.lay(0, 1)
        self.assertEqual(house.contrary(0, 1), 1)

    def test_moves_of_coins_do_not_ask_who_is_out(self):
        house = self.house
        house.strike(0, 1, 0, 1, 100, 0, 0)
        house.close()
        self.assertTrue(house.is_out(0))
        house.put(0, 5)
        house.lay(0, 5)
        house.free(0, 11)
        house.take(0, 11)
        self.assertEqual((house.purse(0), house.pledge(0)), (0, 0))


class CloseTest(HouseCase):
    def test_an_empty_day(self):
        house = House([(10, 6, 1), (0, 9, 2)], MOVES, RULE, WORDS, 5)
        rows = tuple((word, (0, 0), (0, 0, 0)) for word in WORDS)
        report = (0, (), (0, 0), rows, (0, 0), (), ((0, 1), (0, 1)), ((10, 1), (0, 1)), ())
        self.assertEqual(house.close(), report)
        self.assertEqual(house.report(0), report)
        self.assertEqual(house.today(), 1)
        self.assertEqual(house.coins(), 33)

    def test_a_day_paid_in_full(self):
        house = House([(10, 50, 1), (0, 50, 2)], MOVES, RULE, WORDS, 5)
        house.strike(0, 1, 0, 1, 9, 0, 0)
        house.strike(1, 0, 0, 1, 4, 0, 2)
        report = house.close()
        self.assertEqual(report[:3], (0, ((0, 1, 0, 9), (1, 0, 2, 4)), (0, 0)))
        self.assertEqual(report[4:], ((0, 0), (5, 0), ((5, 1), (0, 1)), ((5, 1), (5, 1)), ()))
        self.assertEqual([house.purse(0), house.purse(1), house.own()], [5, 5, 5])
        self.assertEqual([house.deal(0)[7], house.deal(1)[7]], ["settled", "settled"])

    def test_what_layers_bear_is_taken_off(self):
        house = House([(10, 20, 3), (0, 50, 4), (0, 50, 9)], MOVES, RULE, WORDS, 5)
        house.strike(0, 1, 0, 1, 45, 0, 0)
        report = house.close()
        self.assertEqual(report[2], (35, 0, 0))
        self.assertEqual(report[3], (
            ("pledge", (20, 0, 0), (20, 0, 0, 0)), ("share", (3, 0, 0), (3, 0, 0, 0)), ("own", (5, 0, 0), (0, 0, 0, 5)),
            ("others", (7, 0, 0), (0, 3, 4, 0)), ("level", (0, 0, 0), (0, 0, 0, 0)),
        ))
        self.assertEqual(report[4], (0, 0, 0))
        self.assertEqual([house.purse(member) for member in range(3)], [0, 45, 0])
        self.assertEqual([house.pledge(member) for member in range(3)], [0, 50, 50])
        self.assertEqual([house.share(member) for member in range(3)], [0, 1, 5])
        self.assertEqual(house.own(), 0)
        self.assertEqual(report[8], ())

    def test_level_is_taken_off_shares(self):
        house = House([(0, 20, 3), (0, 50, 4), (0, 50, 9)], MOVES, RULE, ["level"], 5)
        house.strike(0, 1, 0, 1, 11, 0, 0)
        report = house.close()
        self.assertEqual(report[3], (("level", (11, 0, 0), (0, 4, 7, 0)),))
        self.assertEqual([house.share(member) for member in range(3)], [3, 0, 2])
        self.assertEqual([house.pledge(member) for member in range(3)], [20, 50, 50])

    def test_broken_coins_go_to_own(self):
        house = House([(10, 99, 0), (0, 99, 0), (0, 99, 0), (0, 99, 0)], MOVES, RULE, [], 5)
        for payee in (1, 2, 3):
            house.strike(0, payee, 0, 1, 7, 0, 0)
        report = house.close()
        self.assertEqual(report[7], ((0, 1), (10, 3), (10, 3), (10, 3)))
        self.assertEqual([house.purse(member) for member in range(4)], [0, 3, 3, 3])
        self.assertEqual(house.own(), 6)
        self.assertEqual(house.coins(), 10 + 4 * 99 + 5)

    def test_outs_and_their_deals(self):
        house = House([(1, 99, 0), (0, 99, 0), (50, 99, 0)], MOVES, RULE, [], 0)
        house.strike(0, 1, 0, 1, 9, 0, 0)
        house.strike(1, 2, 0, 1, 9, 0, 0)
        house.strike(2, 0, 0, 1, 1, 7, 0)
        house.strike(1, 2, 0, 1, 1, 8, 0)
        self.assertEqual(house.close()[8], (0, 1))
        self.assertEqual([house.is_out(member) for member in range(3)], [True, True, False])
        self.assertEqual([house.deal(number)[7] for number in range(4)], ["settled", "settled", "broken", "broken"])
        self.assertEqual(house.close()[8], ())
        self.assertTrue(house.is_out(0))

    def test_members_that_are_out_bear_as_others_do(self):
        house = House([(1, 99, 8), (0, 99, 0), (50, 99, 8)], MOVES, RULE, ["others"], 0)
        house.strike(0, 2, 0, 1, 30, 0, 0)
        house.close()
        self.assertTrue(house.is_out(0))
        self.assertEqual([house.share(member) for member in range(3)], [8, 0, 0])
        house.strike(1, 2, 0, 1, 5, 1, 0)
        report = house.close()
        self.assertEqual(report[3], (("others", (0, 5, 0), (5, 0, 0, 0)),))
        self.assertEqual([house.share(member) for member in range(3)], [3, 0, 0])

    def test_only_todays_deals_are_in_the_sheet(self):
        house = House([(10, 99, 0), (10, 99, 0)], MOVES, RULE, [], 0)
        house.strike(0, 1, 0, 1, 1, 0, 0)
        house.strike(0, 1, 0, 1, 2, 1, 0)
        house.strike(0, 1, 0, 1, 3, 0, 0)
        house.break_off(2)
        self.assertEqual(house.close()[1], ((0, 1, 0, 1),))
        self.assertEqual(house.close()[1], ((0, 1, 0, 2),))


class ReportsTest(HouseCase):
    def test_unclosed(self):
        house = House([(10, 99, 0), (10, 99, 0)], MOVES, RULE, [], 0)
        for day in (0, 1, -1, FAR, -FAR):
            self.refused(Unclosed, house, house.report, day)
        house.close()
        house.close()
        for day in (2, -1, -2, FAR, -FAR):
            self.refused(Unclosed, house, house.report, day)
        self.assertEqual([house.report(day)[0] for day in (0, 1)], [0, 1])

    def test_a_report_stands_whatever_is_done_later(self):
        house = House([(10, 9, 5), (10, 9, 5)], MOVES, RULE, WORDS, 3)
        house.strike(0, 1, 0, 3, 18, 0, 0)
        report = house.close()
        kept = copy.deepcopy(report)
        self.assertTrue(only_tuples(report))
        house.put(0, 50)
        house.lay(0, 40)
        house.contrary(0, 1)
        house.close()
        house.take(0, 1)
        self.assertEqual(house.report(0), kept)
        self.assertEqual(house.report(0), report)
        self.assertEqual(report[0], 0)

    def test_corrections_come_behind_by_contrary_deals(self):
        house = House([(10, 9, 5), (10, 9, 5)], MOVES, RULE, [], 3)
        house.strike(0, 1, 0, 1, 8, 0, 0)
        house.close()
        house.contrary(0, 1)
        house.close()
        self.assertEqual([house.purse(0), house.purse(1)], [10, 10])
        self.assertEqual(house.entries(0), [(0, 0, -8), (1, 1, 8)])


class ManyDeedsTest(HouseCase):
    MEMBERS = 4

    def deed(self, chance, house):
        day = house.today() + chance.choice((-1, 0, 0, 0, 0, 1, 1, 2))
        number = chance.randrange(-1, 30)
        member = chance.choice((-1, 0, 0, 1, 1, 2, 2, 3, 3, 4))
        coins = chance.choice((-1, 0, 1, 5, 20, 20, 50, 10 ** 9 + 1))
        amount = chance.choice((0, 3, 10, 25, 60, 90))
        payee = chance.randrange(4)
        terms = (member, payee, chance.choice((0, 0, 1, 1, 2)), chance.randrange(4), amount, day, chance.randrange(3))
        return chance.choice(
            [("strike", terms)] * 12 + [("change", (number, amount, day)), ("break_off", (number,))] + [("contrary", (number, day))] * 3
            + [("put", (member, coins)), ("take", (member, coins)), ("lay", (member, coins)), ("free", (member, coins))] * 2
            + [("close", ())] * 2
        )

    def close_by_words(self, house, ahead, report):
        """Checks a closed day against what there was ahead of it."""
        today, own, coins, by_member, deals, sheets, reports = ahead
        sheet = [(one[0], one[1], one[6], one[4]) for one in deals if one[5] == today and one[7] == "standing"]
        purses, pledges, shares = [[one[place] for one in by_member] for place in range(3)]
        gaps, rows, rests, left, lays, ends, outs = settled_day(sheet, purses, pledges, shares, own, WORDS)
        self.assertEqual(report[0], today)
        self.assertEqual([list(report[place]) for place in (1, 2, 4, 5, 6, 7, 8)], [sheet, gaps, rests, left, lays, ends, outs])
        self.assertEqual([(word, list(given), list(borne)) for word, given, borne in report[3]], rows)
        self.assertTrue(only_tuples(report))
        for member in range(self.MEMBERS):
            borne = {word: some[member] for word, given, some in rows}
            self.assertEqual(house.pledge(member), pledges[member] - borne["pledge"])
            self.assertEqual(house.share(member), shares[member] - borne["share"] - borne["others"] - borne["level"])
            self.assertEqual(house.purse(member), fraction(ends[member]).__floor__())
            self.assertEqual(house.is_out(member), by_member[member][4] or member in outs)
            told = statement(report, member)
            self.assertEqual(purses[member] + told[3] + fraction(told[6]) - fraction(told[5]), fraction(told[7]))
        broken = sum(fraction(end) for end in ends) - sum(house.purse(member) for member in range(self.MEMBERS))
        self.assertEqual(house.own(), own - sum(borne[-1] for word, given, borne in rows) + broken)
        for number, one in enumerate(deals):
            state = one[7]
            if state == "standing" and one[5] == today:
                state = "settled"
            elif state == "standing" and (one[0] in outs or one[1] in outs):
                state = "broken"
            self.assertEqual(house.deal(number), one[:7] + (state,))
        self.assertEqual(house.today(), today + 1)
        return outs

    def check_row(self, seed, deeds):
        chance = random.Random(seed)
        moves = [[chance.randrange(-9, 10), chance.randrange(-9, 10)] for day in range(chance.randrange(1, 8))]
        rule = (chance.choice(("worst", "mean")), chance.randrange(1, len(moves) + 1))
        members = [(chance.randrange(60), chance.randrange(100), chance.randrange(20)) for member in range(self.MEMBERS)]
        house = House(members, moves, rule, WORDS, 10)
        came = house.coins()
        self.assertEqual(came, sum(map(sum, members)) + 10)
        seen = {}
        for turn in range(deeds):
            name, terms = self.deed(chance, house)
            ahead = shown(house, self.MEMBERS)
            try:
                answer = getattr(house, name)(*terms)
            except QuitsError as refusal:
                seen[name, type(refusal).__name__] = True
                self.assertEqual(shown(house, self.MEMBERS), ahead)
            else:
                seen[name, None] = True
                if name == "close":
                    seen["outs", self.close_by_words(house, ahead, answer) != []] = True
                came += terms[1] if name == "put" else -terms[1] if name == "take" else 0
            behind = shown(house, self.MEMBERS)
            self.assertEqual(house.coins(), came)
            self.assertEqual(behind[6][:len(ahead[6])], ahead[6])
            self.check_entries(behind[3], rule, moves)
        return seen

    def check_entries(self, by_member, rule, moves):
        sums = {}
        for one in by_member:
            for day, number, coins in one[5]:
                sums[day] = sums.get(day, 0) + coins
            self.assertEqual(one[3], need_of(rule, one[6], moves))
            self.assertTrue(min(one[:3]) >= 0)
        self.assertTrue(all(coins == 0 for coins in sums.values()))

    def test_rows_of_deeds(self):
        seen = {}
        for seed in range(40):
            with self.subTest(seed=seed):
                seen.update(self.check_row(seed, 150))
        for name, refusals in (
            ("strike", (None, "NoMember", "Out", "NoTerms", "Closed", "Bare")),
            ("contrary", (None, "NoDeal", "Gone", "Standing", "Out", "Closed", "Bare")),
            ("change", (None, "NoDeal", "Gone", "Settled", "NoTerms")),
            ("break_off", (None, "NoDeal", "Gone", "Settled")),
            ("put", (None, "NoMember", "NoTerms")),
            ("take", (None, "NoMember", "NoTerms", "Poor")),
            ("lay", (None, "NoMember", "NoTerms", "Poor")),
            ("free", (None, "NoMember", "NoTerms", "Poor", "Bare")),
            ("outs", (True, False)),
        ):
            for refusal in refusals:
                self.assertIn((name, refusal), seen)


class OwnListsTest(HouseCase):
    def test_told_lists_are_the_askers_own(self):
        house = House([(10, 9, 5), (10, 9, 5)], MOVES, RULE, WORDS, 3)
        house.strike(0, 1, 0, 1, 8, 0, 0)
        ahead = shown(house, 2)
        told = [house.sheet_on(0), house.entries(0), house.position(0)]
        kept = repr(told)
        house.strike(0, 1, 0, 1, 8, 0, 0)
        self.assertEqual(repr(told), kept)
        house.break_off(1)
        for some in told:
            some.clear()
        self.assertEqual(shown(house, 2)[3], ahead[3])


class GreatDayTest(HouseCase):
    def test_a_day_of_sixty_four_deals_in_time(self):
        chance = random.Random(141)
        members = [(chance.randrange(10 ** 8), 10 ** 9, chance.randrange(10 ** 6)) for member in range(8)]
        house = House(members, [[-999, 998, 5, 7], [1, -1, 0, 40]], ("mean", 2), ["share", "others"], 10 ** 6)
        came = house.coins()
        for number in range(64):
            payer, payee = chance.sample(range(8), 2)
            house.strike(payer, payee, chance.randrange(4), chance.randrange(1, 1000), chance.randrange(1, 10 ** 9), 0, chance.randrange(3))
        report = house.close()
        self.assertEqual(len(report[1]), 64)
        self.assertNotEqual(report[8], ())
        self.assertEqual(house.coins(), came)
        self.assertEqual(house.report(0), report)


if __name__ == "__main__":
    unittest.main()
