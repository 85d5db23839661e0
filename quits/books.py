"""Books of deals.

A deal is a tuple (payer, payee, ware, units, amount, day, rank, state). It is never changed in place: another tuple
takes its place in the book, so a deal that was told stays as it was told.
"""

from quits.errors import Closed, Gone, NoDeal, NoMember, NoTerms, Settled, Standing

PAYER = 0
PAYEE = 1
WARE = 2
UNITS = 3
AMOUNT = 4
DAY = 5
RANK = 6
STATE = 7

MOST_UNITS = 10 ** 6
MOST_AMOUNT = 10 ** 9
MOST_DAY = 10 ** 6


class Book:
    def __init__(self, many, wares):
        self.many = many
        self.wares = wares
        self.day = 0
        self.deals = []

    def strike(self, payer, payee, ware, units, amount, day, rank):
        self.check_members(payer, payee)
        self.check_terms(ware, units, amount, day, rank)
        self.deals.append((payer, payee, ware, units, amount, day, rank, "standing"))
        return len(self.deals) - 1

    def check_members(self, payer, payee):
        for member in (payer, payee):
            if member < 0 or member >= self.many:
                raise NoMember("there is no member of this number")
        if payer == payee:
            raise NoMember("nobody deals with itself")

    def check_terms(self, ware, units, amount, day, rank):
        if ware < 0 or ware >= self.wares:
            raise NoTerms("there is no ware of this number")
        if units < 1 or units > MOST_UNITS:
            raise NoTerms("a deal is of 1 to 10 ** 6 units")
        if amount < 1 or amount > MOST_AMOUNT:
            raise NoTerms("an amount is from 1 to 10 ** 9")
        if day < 0 or day > MOST_DAY:
            raise NoTerms("a day is from 0 to 10 ** 6")
        if rank < 0 or rank > 2:
            raise NoTerms("a rank is 0, 1 or 2")
        if day < self.day:
            raise Closed("this day is closed")

    def change(self, number, amount, day):
        old = self.standing_deal(number)
        self.check_terms(old[WARE], old[UNITS], amount, day, old[RANK])
        self.deals[number] = old[:AMOUNT] + (amount, day) + old[RANK:]

    def break_off(self, number):
        self.standing_deal(number)
        self.put_state(number, "broken")

    def standing_deal(self, number):
        found = self.deal(number)
        if found[STATE] == "broken":
            raise Gone("this deal is broken")
        if found[STATE] == "settled":
            raise Settled("this deal is settled")
        return found

    def put_state(self, number, state):
        self.deals[number] = self.deals[number][:STATE] + (state,)

    def break_all(self, member):
        numbers = [
            number for number, one in enumerate(self.deals)
            if one[STATE] == "standing" and member in (one[PAYER], one[PAYEE])
        ]
        for number in numbers:
            self.put_state(number, "broken")
        return numbers

    def contrary(self, number, day):
        terms = self.contrary_terms(number)
        return self.strike(terms[PAYER], terms[PAYEE], terms[WARE], terms[UNITS], terms[AMOUNT], day, terms[RANK])

    def contrary_terms(self, number):
        found = self.deal(number)
        if found[STATE] == "broken":
            raise Gone("this deal is broken")
        if found[STATE] == "standing":
            raise Standing("this deal stands: it may be changed or broken off")
        return (found[PAYEE], found[PAYER]) + found[WARE:]

    def close(self):
        numbers = [
            number for number, one in enumerate(self.deals) if one[STATE] == "standing" and one[DAY] == self.day
        ]
        for number in numbers:
            self.put_state(number, "settled")
        self.day += 1
        return numbers

    def today(self):
        return self.day

    def struck(self):
        return len(self.deals)

    def deal(self, number):
        if number < 0 or number >= len(self.deals):
            raise NoDeal("there is no deal of this number")
        return self.deals[number]

    def numbers_on(self, day):
        return [number for number, one in enumerate(self.deals) if one[DAY] == day and one[STATE] != "broken"]

    def sheet_on(self, day):
        some = [self.deals[number] for number in self.numbers_on(day)]
        return [(one[PAYER], one[PAYEE], one[RANK], one[AMOUNT]) for one in some]

    def entries(self, member):
        made = []
        for number, one in enumerate(self.deals):
            if one[STATE] != "broken" and one[PAYER] == member:
                made.append((one[DAY], number, -one[AMOUNT]))
            elif one[STATE] != "broken" and one[PAYEE] == member:
                made.append((one[DAY], number, one[AMOUNT]))
        return sorted(made)

    def position(self, member):
        made = [0] * self.wares
        for one in self.deals:
            if one[STATE] == "standing" and one[PAYER] == member:
                made[one[WARE]] += one[UNITS]
            elif one[STATE] == "standing" and one[PAYEE] == member:
                made[one[WARE]] -= one[UNITS]
        return made
