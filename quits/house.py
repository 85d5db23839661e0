"""The house: members with their coins, a book of deals, days closed one by one."""

from quits.books import Book
from quits.errors import Bare, NoMember, NoTerms, Out, Poor, Unclosed
from quits.layers import check_order
from quits.needs import check_rule, need_of
from quits.parts import minus, total, under, whole_of
from quits.settling import settled_day

MOST_COINS = 10 ** 9


class House:
    def __init__(self, members, moves, rule, order, own):
        check_rule(rule, moves)
        check_order(order)
        self.purses = [coins[0] for coins in members]
        self.pledges = [coins[1] for coins in members]
        self.shares = [coins[2] for coins in members]
        self.kept = own
        self.moves = [list(moved) for moved in moves]
        self.rule = (rule[0], rule[1])
        self.order = list(order)
        self.book = Book(len(members), len(moves[0]))
        self.outs = [False for coins in members]
        self.reports = []

    def put(self, member, coins):
        self.check_coins(member, coins)
        self.purses[member] += coins

    def take(self, member, coins):
        self.check_coins(member, coins)
        check_enough(self.purses[member], coins)
        self.purses[member] -= coins

    def lay(self, member, coins):
        self.check_coins(member, coins)
        check_enough(self.purses[member], coins)
        self.purses[member] -= coins
        self.pledges[member] += coins

    def free(self, member, coins):
        self.check_coins(member, coins)
        check_enough(self.pledges[member], coins)
        check_covered(self.pledges[member] - coins, self.need(member))
        self.pledges[member] -= coins
        self.purses[member] += coins

    def check_coins(self, member, coins):
        if member < 0 or member >= len(self.purses):
            raise NoMember("there is no member of this number")
        if coins < 0 or coins > MOST_COINS:
            raise NoTerms("coins are moved by sums from 0 to 10 ** 9")

    def strike(self, payer, payee, ware, units, amount, day, rank):
        self.book.check_members(payer, payee)
        if self.outs[payer] or self.outs[payee]:
            raise Out("one of both members is out")
        self.book.check_terms(ware, units, amount, day, rank)
        check_covered(self.pledges[payer], self.need_with(payer, ware, units))
        check_covered(self.pledges[payee], self.need_with(payee, ware, -units))
        return self.book.strike(payer, payee, ware, units, amount, day, rank)

    def change(self, number, amount, day):
        self.book.change(number, amount, day)

    def break_off(self, number):
        self.book.break_off(number)

    def contrary(self, number, day):
        terms = self.book.contrary_terms(number)
        return self.strike(terms[0], terms[1], terms[2], terms[3], terms[4], day, terms[6])

    def close(self):
        day = self.book.today()
        sheet = self.book.sheet_on(day)
        told = settled_day(sheet, self.purses, self.pledges, self.shares, self.kept, self.order)
        made = as_tuples((day, sheet) + told)
        self.bear(told[1])
        self.pay_out(told[5])
        self.book.close()
        for member in told[6]:
            self.outs[member] = True
            self.book.break_all(member)
        self.reports.append(made)
        return made

    def bear(self, rows):
        for word, given, borne in rows:
            there = self.pledges if word == "pledge" else self.shares
            for member in range(len(self.purses)):
                there[member] -= borne[member]
            self.kept -= borne[-1]

    def pay_out(self, ends):
        self.purses = [whole_of(end) for end in ends]
        self.kept += whole_of(minus(total(ends), (sum(self.purses), 1)))

    def report(self, day):
        if day < 0 or day >= len(self.reports):
            raise Unclosed("this day is not closed")
        return self.reports[day]

    def purse(self, member):
        return self.purses[member]

    def pledge(self, member):
        return self.pledges[member]

    def share(self, member):
        return self.shares[member]

    def own(self):
        return self.kept

    def coins(self):
        return sum(self.purses) + sum(self.pledges) + sum(self.shares) + self.kept

    def need(self, member):
        return need_of(self.rule, self.book.position(member), self.moves)

    def need_with(self, member, ware, units):
        held = self.book.position(member)
        held[ware] += units
        return need_of(self.rule, held, self.moves)

    def is_out(self, member):
        return self.outs[member]

    def today(self):
        return self.book.today()

    def deal(self, number):
        return self.book.deal(number)

    def sheet_on(self, day):
        return self.book.sheet_on(day)

    def entries(self, member):
        return self.book.entries(member)

    def position(self, member):
        return self.book.position(member)


def check_enough(coins, wanted):
    if coins < wanted:
        raise Poor("there are fewer coins than that")


def check_covered(pledge, need):
    if under((pledge, 1), need):
        raise Bare("the pledge would be less than the need")


def as_tuples(told):
    if isinstance(told, (list, tuple)):
        return tuple([as_tuples(each) for each in told])
    return told
