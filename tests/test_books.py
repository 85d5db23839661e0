import random
import unittest

from quits.books import Book
from quits.errors import Closed, Gone, NoDeal, NoMember, NoTerms, QuitsError, Settled, Standing

FAR = 10 ** 59
# Each is refused: what is put in the place of a good argument, by its place in strike.
BAD_TERMS = (
    (2, (-1, 2, FAR, -FAR)),
    (3, (0, -1, 10 ** 6 + 1, FAR, -FAR)),
    (4, (0, -1, 10 ** 9 + 1, FAR, -FAR)),
    (5, (-1, 10 ** 6 + 1, FAR, -FAR)),
    (6, (-1, 3, FAR, -FAR)),
)


def shown(book, many):
    """All that a book tells."""
    days = sorted({book.deal(number)[5] for number in range(book.struck())} | {-1, 0, book.today(), 10 ** 6})
    return (
        book.today(), book.struck(), [book.deal(number) for number in range(book.struck())],
        [(day, book.numbers_on(day), book.sheet_on(day)) for day in days],
        [(book.entries(member), book.position(member)) for member in range(many)],
    )


class BooksCase(unittest.TestCase):
    def refused(self, error, book, deed, *terms):
        ahead = shown(book, book.many)
        with self.assertRaises(error) as taken:
            deed(*terms)
        self.assertIs(type(taken.exception), error)
        self.assertEqual(shown(book, book.many), ahead)


class StrikeTest(BooksCase):
    def test_a_new_book(self):
        book = Book(3, 2)
        self.assertEqual(book.today(), 0)
        self.assertEqual(book.struck(), 0)
        self.assertEqual(book.numbers_on(0), [])
        self.assertEqual(book.sheet_on(0), [])
        self.assertEqual(book.entries(2), [])
        self.assertEqual(book.position(2), [0, 0])

    def test_deals_are_numbered_as_they_are_struck(self):
        book = Book(3, 2)
        self.assertEqual(book.strike(0, 1, 0, 5, 10, 3, 2), 0)
        self.assertEqual(book.strike(2, 0, 1, 1, 1, 0, 0), 1)
        self.assertEqual(book.strike(0, 1, 0, 5, 10, 3, 2), 2)
        self.assertEqual(book.struck(), 3)
        self.assertEqual(book.deal(0), (0, 1, 0, 5, 10, 3, 2, "standing"))
        self.assertEqual(book.deal(1), (2, 0, 1, 1, 1, 0, 0, "standing"))
        self.assertEqual(book.deal(2), book.deal(0))
        self.assertIs(type(book.deal(0)), tuple)

    def test_the_edges_are_taken(self):
        book = Book(8, 4)
        book.strike(0, 7, 3, 1, 1, 0, 0)
        book.strike(7, 0, 0, 10 ** 6, 10 ** 9, 10 ** 6, 2)
        self.assertEqual(book.deal(1), (7, 0, 0, 10 ** 6, 10 ** 9, 10 ** 6, 2, "standing"))
        self.assertEqual(Book(2, 1).strike(1, 0, 0, 1, 1, 0, 1), 0)

    def test_no_member(self):
        book = Book(3, 2)
        for payer, payee in ((-1, 0), (0, -1), (3, 0), (0, 3), (1, 1), (FAR, 0), (0, -FAR), (5, 5), (-1, -1)):
            with self.subTest(payer=payer, payee=payee):
                self.refused(NoMember, book, book.strike, payer, payee, 0, 1, 1, 0, 0)
        self.refused(NoMember, Book(1, 1), Book(1, 1).strike, 0, 0, 0, 1, 1, 0, 0)

    def test_no_terms(self):
        book = Book(3, 2)
        for place, some in BAD_TERMS:
            for bad in some:
                terms = [0, 1, 0, 1, 1, 0, 0]
                terms[place] = bad
                with self.subTest(terms=terms):
                    self.refused(NoTerms, book, book.strike, *terms)

    def test_closed(self):
        book = Book(3, 2)
        for day in range(3):
            book.close()
        for day in (0, 1, 2):
            self.refused(Closed, book, book.strike, 0, 1, 0, 1, 1, day, 0)
        self.assertEqual(book.strike(0, 1, 0, 1, 1, 3, 0), 0)

    def test_the_first_of_two_refusals(self):
        book = Book(3, 2)
        book.close()
        self.refused(NoMember, book, book.strike, 0, 0, 9, 0, 0, -1, 9)
        self.refused(NoMember, book, book.strike, 0, 9, 0, 1, 1, 0, 0)
        self.refused(NoTerms, book, book.strike, 0, 1, 0, 1, 1, 0, 3)
        self.refused(NoTerms, book, book.strike, 0, 1, 0, 0, 1, 0, 0)
        self.refused(NoTerms, book, book.strike, 0, 1, 0, 1, 1, -1, 0)
        self.refused(Closed, book, book.strike, 0, 1, 0, 1, 1, 0, 0)


class ChangeTest(BooksCase):
    def setUp(self):
        self.book = Book(3, 2)
        self.book.strike(0, 1, 1, 5, 10, 0, 2)
        self.book.strike(1, 2, 0, 4, 20, 3, 1)
        self.book.strike(2, 0, 0, 3, 30, 3, 0)
        self.book.break_off(2)

    def test_amount_and_day(self):
        self.assertIsNone(self.book.change(1, 10 ** 9, 10 ** 6))
        self.assertEqual(self.book.deal(1), (1, 2, 0, 4, 10 ** 9, 10 ** 6, 1, "standing"))
        self.assertEqual(self.book.numbers_on(3), [])
        self.assertEqual(self.book.numbers_on(10 ** 6), [1])
        self.book.change(1, 1, 0)
        self.assertEqual(self.book.deal(1), (1, 2, 0, 4, 1, 0, 1, "standing"))
        self.assertEqual(self.book.sheet_on(0), [(0, 1, 2, 10), (1, 2, 1, 1)])

    def test_no_deal(self):
        for number in (-1, 3, FAR, -FAR, -3):
            self.refused(NoDeal, self.book, self.book.change, number, 0, -1)
            self.refused(NoDeal, self.book, self.book.break_off, number)
            self.refused(NoDeal, self.book, self.book.contrary, number, -1)
            self.refused(NoDeal, self.book, self.book.deal, number)

    def test_gone(self):
        self.refused(Gone, self.book, self.book.change, 2, 0, -1)
        self.refused(Gone, self.book, self.book.break_off, 2)
        self.refused(Gone, self.book, self.book.contrary, 2, -1)

    def test_settled(self):
        self.book.close()
        self.refused(Settled, self.book, self.book.change, 0, 0, -1)
        self.refused(Settled, self.book, self.book.change, 0, 5, 5)
        self.refused(Settled, self.book, self.book.break_off, 0)

    def test_no_terms_then_closed(self):
        self.book.close()
        self.book.close()
        for amount in (0, -1, 10 ** 9 + 1, FAR, -FAR):
            self.refused(NoTerms, self.book, self.book.change, 1, amount, 3)
            self.refused(NoTerms, self.book, self.book.change, 1, amount, 1)
        for day in (-1, 10 ** 6 + 1, FAR, -FAR):
            self.refused(NoTerms, self.book, self.book.change, 1, 5, day)
        for day in (0, 1):
            self.refused(Closed, self.book, self.book.change, 1, 5, day)
        self.book.change(1, 5, 2)

    def test_break_off(self):
        self.assertIsNone(self.book.break_off(1))
        self.assertEqual(self.book.deal(1), (1, 2, 0, 4, 20, 3, 1, "broken"))
        self.assertEqual(self.book.numbers_on(3), [])
        self.assertEqual(self.book.entries(2), [])
        self.assertEqual(self.book.position(2), [0, 0])

    def test_break_all(self):
        self.assertEqual(self.book.break_all(1), [0, 1])
        self.assertEqual([self.book.deal(number)[7] for number in range(3)], ["broken"] * 3)
        self.assertEqual(self.book.break_all(1), [])

    def test_break_all_leaves_others_and_settled_ones(self):
        self.book.close()
        self.assertEqual(self.book.break_all(0), [])
        self.assertEqual(self.book.break_all(2), [1])
        self.assertEqual([self.book.deal(number)[7] for number in range(3)], ["settled", "broken", "broken"])


class CloseTest(BooksCase):
    def test_days_go_on(self):
        book = Book(2, 1)
        self.assertEqual(book.close(), [])
        self.assertEqual(book.today(), 1)
        book.strike(0, 1, 0, 1, 1, 1, 0)
        book.strike(0, 1, 0, 1, 1, 2, 0)
        book.strike(1, 0, 0, 1, 1, 1, 0)
        book.strike(1, 0, 0, 1, 1, 1, 0)
        book.break_off(2)
        self.assertEqual(book.close(), [0, 3])
        self.assertEqual([book.deal(number)[7] for number in range(4)], ["settled", "standing", "broken", "settled"])
        self.assertEqual(book.today(), 2)
        self.assertEqual(book.close(), [1])

    def test_a_deal_changed_to_another_day_is_settled_there(self):
        book = Book(2, 1)
        book.strike(0, 1, 0, 1, 1, 0, 0)
        book.change(0, 7, 1)
        self.assertEqual(book.close(), [])
        self.assertEqual(book.close(), [0])
        self.assertEqual(book.deal(0), (0, 1, 0, 1, 7, 1, 0, "settled"))

    def test_contrary(self):
        book = Book(3, 2)
        book.strike(2, 0, 1, 5, 10, 0, 2)
        book.close()
        self.assertEqual(book.contrary(0, 4), 1)
        self.assertEqual(book.deal(1), (0, 2, 1, 5, 10, 4, 2, "standing"))
        self.assertEqual(book.deal(0), (2, 0, 1, 5, 10, 0, 2, "settled"))
        self.assertEqual(book.contrary(0, 1), 2)
        self.assertEqual(book.contrary(0, 10 ** 6), 3)
        book.close()
        self.assertEqual(book.contrary(2, 2), 4)
        self.assertEqual(book.deal(4), (2, 0, 1, 5, 10, 2, 2, "standing"))

    def test_contrary_refused(self):
        book = Book(3, 2)
        book.strike(2, 0, 1, 5, 10, 0, 2)
        self.refused(Standing, book, book.contrary, 0, -1)
        self.refused(Standing, book, book.contrary, 0, 0)
        book.close()
        for day in (-1, 10 ** 6 + 1, FAR, -FAR):
            self.refused(NoTerms, book, book.contrary, 0, day)
        self.refused(Closed, book, book.contrary, 0, 0)
        self.refused(NoDeal, book, book.contrary, 1, 1)
        book.contrary(0, 1)
        book.break_off(1)
        self.refused(Gone, book, book.contrary, 1, 0)


class TellingTest(BooksCase):
    def setUp(self):
        self.book = Book(3, 2)
        self.book.strike(0, 1, 1, 5, 10, 4, 2)
        self.book.strike(1, 0, 0, 4, 20, 0, 1)
        self.book.strike(0, 2, 0, 3, 30, 4, 0)
        self.book.strike(2, 0, 1, 2, 40, 2, 0)
        self.book.strike(0, 1, 1, 1, 50, 4, 1)

    def test_days(self):
        self.assertEqual(self.book.numbers_on(4), [0, 2, 4])
        self.assertEqual(self.book.sheet_on(4), [(0, 1, 2, 10), (0, 2, 0, 30), (0, 1, 1, 50)])
        for day in (-1, 1, 10 ** 7, FAR, -FAR):
            self.assertEqual(self.book.numbers_on(day), [])
            self.assertEqual(self.book.sheet_on(day), [])
        self.book.break_off(2)
        self.assertEqual(self.book.numbers_on(4), [0, 4])
        self.assertEqual(self.book.sheet_on(4), [(0, 1, 2, 10), (0, 1, 1, 50)])

    def test_settled_deals_stay_on_their_day(self):
        self.book.close()
        self.assertEqual(self.book.numbers_on(0), [1])
        self.assertEqual(self.book.sheet_on(0), [(1, 0, 1, 20)])

    def test_entries_are_sorted(self):
        self.assertEqual(self.book.entries(0), [(0, 1, 20), (2, 3, 40), (4, 0, -10), (4, 2, -30), (4, 4, -50)])
        self.assertEqual(self.book.entries(2), [(2, 3, -40), (4, 2, 30)])
        self.book.close()
        self.book.break_off(3)
        self.assertEqual(self.book.entries(0), [(0, 1, 20), (4, 0, -10), (4, 2, -30), (4, 4, -50)])

    def test_positions_of_standing_deals_alone(self):
        self.assertEqual(self.book.position(0), [-1, 4])
        self.assertEqual(self.book.position(1), [4, -6])
        self.assertEqual(self.book.position(2), [-3, 2])
        self.book.close()
        self.assertEqual(self.book.position(1), [0, -6])
        self.book.break_off(0)
        self.assertEqual(self.book.position(1), [0, -1])

    def test_told_lists_stay_and_are_the_askers_own(self):
        self.book.close()
        told = [self.book.numbers_on(4), self.book.sheet_on(4), self.book.entries(0), self.book.position(0)]
        kept = repr(told)
        self.book.strike(0, 1, 1, 5, 10, 4, 2)
        self.book.break_all(2)
        self.assertEqual(repr(told), kept)
        ahead = shown(self.book, 3)
        for some in told + [self.book.break_all(0), self.book.close()]:
            some.clear()
        self.assertEqual(told, [[], [], [], []])
        self.assertNotEqual(shown(self.book, 3), ahead)
        ahead = shown(self.book, 3)
        self.book.numbers_on(0).append(9)
        self.book.sheet_on(0).append(9)
        self.book.entries(0).append(9)
        self.book.position(0)[0] = 9
        self.assertEqual(shown(self.book, 3), ahead)

    def test_nothing_done_to_one_book_changes_another(self):
        other = Book(3, 2)
        ahead = shown(other, 3)
        self.book.close()
        self.book.break_all(0)
        self.assertEqual(shown(other, 3), ahead)


class Plain:
    """A book by the document's words, with a dict for each deal."""

    def __init__(self):
        self.deals = []
        self.now = 0

    def told(self):
        keys = ("payer", "payee", "ware", "units", "amount", "day", "rank", "state")
        return [tuple(deal[key] for key in keys) for deal in self.deals]

    def refusal(self, many, wares, payer, payee, ware, units, amount, day, rank):
        if not (0 <= payer < many and 0 <= payee < many and payer != payee):
            return NoMember
        good = 0 <= ware < wares and 1 <= units <= 10 ** 6 and 1 <= amount <= 10 ** 9
        if not (good and 0 <= day <= 10 ** 6 and rank in (0, 1, 2)):
            return NoTerms
        return Closed if day < self.now else None


class ManyDeedsTest(BooksCase):
    def deed(self, chance, book, plain):
        """One deed by chance on both; tells the refusal that the words ask for, and the one that came."""
        number = chance.randrange(-1, len(plain.deals) + 1)
        state = plain.deals[number]["state"] if 0 <= number < len(plain.deals) else None
        day = plain.now + chance.choice((-1, 0, 0, 0, 1, 1, 1, 2, 3))
        amount = chance.choice((0, 1, 2, 3, 5, 7, 9, 10 ** 8, 10 ** 9, 10 ** 9 + 1))
        kinds = ("strike",) * 12 + ("change", "change", "break_off", "contrary", "contrary", "close", "close")
        kind = "break_all" if chance.randrange(40) == 0 else chance.choice(kinds)
        by_state = {None: NoDeal, "broken": Gone}.get(state)
        if kind == "strike":
            payer, payee = chance.choice(((-1, 2), (1, 4), (2, 2))) if chance.randrange(6) == 0 else chance.sample(range(4), 2)
            ware, units, rank = chance.choice((0, 0, 1, 1, 1, 2)), chance.randrange(30), chance.choice((0, 0, 1, 1, 2, 2, 3))
            terms = (payer, payee, ware, units, amount, day, rank)
            expected = plain.refusal(4, 2, *terms)
            done = lambda: plain.deals.append(dict(zip(("payer", "payee", "ware", "units", "amount", "day", "rank"), terms), state="standing"))
            answer = len(plain.deals)
        elif kind == "change":
            terms = (number, amount, day)
            expected = by_state or (Settled if state == "settled" else plain.refusal(4, 2, 0, 1, 0, 1, amount, day, 0))
            done = lambda: plain.deals[number].update(amount=amount, day=day)
            answer = None
        elif kind == "break_off":
            terms = (number,)
            expected = by_state or (Settled if state == "settled" else None)
            done = lambda: plain.deals[number].update(state="broken")
            answer = None
        elif kind == "break_all":
            member = chance.randrange(4)
            terms, expected = (member,), None
            answer = [k for k, deal in enumerate(plain.deals) if deal["state"] == "standing" and member in (deal["payer"], deal["payee"])]
            done = lambda: [plain.deals[k].update(state="broken") for k in answer]
        elif kind == "contrary":
            terms = (number, day)
            expected = by_state or (Standing if state == "standing" else plain.refusal(4, 2, 0, 1, 0, 1, 1, day, 0))
            done = lambda: plain.deals.append(
                dict(plain.deals[number], payer=plain.deals[number]["payee"], payee=plain.deals[number]["payer"], day=day, state="standing")
            )
            answer = len(plain.deals)
        else:
            terms, expected = (), None
            answer = [k for k, deal in enumerate(plain.deals) if deal["state"] == "standing" and deal["day"] == plain.now]
            done = lambda: ([plain.deals[k].update(state="settled") for k in answer], setattr(plain, "now", plain.now + 1))
        try:
            came = getattr(book, kind)(*terms)
        except QuitsError as refusal:
            self.assertIs(type(refusal), expected)
        else:
            self.assertIsNone(expected)
            self.assertEqual(came, answer)
            done()

    def test_rows_of_deeds(self):
        for seed in range(30):
            chance = random.Random(seed)
            book, plain = Book(4, 2), Plain()
            for turn in range(150):
                self.deed(chance, book, plain)
                with self.subTest(seed=seed, turn=turn):
                    self.assertEqual([book.deal(number) for number in range(book.struck())], plain.told())
                    self.assertEqual(book.today(), plain.now)
            self.check_telling(book, plain)

    def check_telling(self, book, plain):
        for day in range(-1, plain.now + 6):
            numbers = [k for k, deal in enumerate(plain.deals) if deal["day"] == day and deal["state"] != "broken"]
            self.assertEqual(book.numbers_on(day), numbers)
            some = [plain.deals[k] for k in numbers]
            self.assertEqual(book.sheet_on(day), [(d["payer"], d["payee"], d["rank"], d["amount"]) for d in some])
            entries = [book.entries(member) for member in range(4)]
            self.assertEqual(sum(entry[2] for one in entries for entry in one if entry[0] == day), 0)
        for member in range(4):
            entries, position = [], [0, 0]
            for number, deal in enumerate(plain.deals):
                for key, sign in (("payer", -1), ("payee", 1)):
                    if deal[key] == member and deal["state"] != "broken":
                        entries.append((deal["day"], number, sign * deal["amount"]))
                    if deal[key] == member and deal["state"] == "standing":
                        position[deal["ware"]] -= sign * deal["units"]
            self.assertEqual(book.entries(member), sorted(entries))
            self.assertEqual(book.position(member), position)


if __name__ == "__main__":
    unittest.main()
