import math
import random
import unittest
from fractions import Fraction

from quits.errors import NoPart
from quits.parts import least, minus, over, part, plus, times, total, under, whole_of

SMALL = [(top, bottom) for top in range(-6, 7) for bottom in range(1, 7) if math.gcd(top, bottom) == 1]


def fraction(one):
    return Fraction(one[0], one[1])


def some_part(chance, figures):
    made = Fraction(
        chance.randrange(10 ** (figures - 1), 10 ** figures) * chance.choice((1, -1)),
        chance.randrange(10 ** (figures - 1), 10 ** figures),
    )
    return (made.numerator, made.denominator)


class PartsCase(unittest.TestCase):
    def check(self, answer, expected):
        self.assertIs(type(answer), tuple)
        self.assertEqual([type(number) for number in answer], [int, int])
        # Numbers may have more figures than Python will write out, so they are not shown.
        self.assertTrue(answer == (expected.numerator, expected.denominator))


class PartTest(PartsCase):
    def test_signs_on_either_side(self):
        self.assertEqual(part(3, 4), (3, 4))
        self.assertEqual(part(-3, 4), (-3, 4))
        self.assertEqual(part(3, -4), (-3, 4))
        self.assertEqual(part(-3, -4), (3, 4))

    def test_top_nought(self):
        for bottom in (1, -1, 5, -5, 10 ** 60):
            with self.subTest(bottom=bottom):
                self.assertEqual(part(0, bottom), (0, 1))

    def test_common_divisors(self):
        self.assertEqual(part(6, 4), (3, 2))
        self.assertEqual(part(6, -4), (-3, 2))
        self.assertEqual(part(-12, -18), (2, 3))
        self.assertEqual(part(8, 4), (2, 1))
        self.assertEqual(part(8, -4), (-2, 1))
        self.assertEqual(part(5, 5), (1, 1))
        self.assertEqual(part(7, 1), (7, 1))

    def test_all_small_pairs(self):
        for top in range(-12, 13):
            for bottom in range(-12, 13):
                if bottom != 0:
                    with self.subTest(top=top, bottom=bottom):
                        self.check(part(top, bottom), Fraction(top, bottom))

    def test_bottom_nought_is_refused(self):
        for top in (0, 1, -1, 10 ** 3999):
            with self.assertRaises(NoPart):
                part(top, 0)

    def test_four_thousand_figures(self):
        chance = random.Random(1)
        shared = chance.randrange(10 ** 1999, 10 ** 2000)
        top = shared * chance.randrange(10 ** 1999, 10 ** 2000)
        bottom = -shared * chance.randrange(10 ** 1999, 10 ** 2000)
        self.check(part(top, bottom), Fraction(top, bottom))


class ReckoningTest(PartsCase):
    def check_pair(self, one, other):
        here = fraction(one)
        there = fraction(other)
        self.check(plus(one, other), here + there)
        self.check(minus(one, other), here - there)
        self.check(times(one, other), here * there)
        if there != 0:
            self.check(over(one, other), here / there)

    def test_told_in_lowest_terms(self):
        self.assertEqual(plus((1, 6), (1, 3)), (1, 2))
        self.assertEqual(plus((1, 2), (1, 3)), (5, 6))
        self.assertEqual(plus((1, 2), (-1, 2)), (0, 1))
        self.assertEqual(minus((1, 2), (1, 6)), (1, 3))
        self.assertEqual(minus((1, 3), (1, 2)), (-1, 6))
        self.assertEqual(minus((5, 6), (5, 6)), (0, 1))
        self.assertEqual(times((2, 3), (3, 4)), (1, 2))
        self.assertEqual(times((-2, 3), (3, 2)), (-1, 1))
        self.assertEqual(times((0, 1), (3, 4)), (0, 1))
        self.assertEqual(times((3, 4), (0, 1)), (0, 1))
        self.assertEqual(over((1, 2), (3, 4)), (2, 3))
        self.assertEqual(over((0, 1), (-3, 4)), (0, 1))

    def test_quotients_by_either_sign(self):
        self.assertEqual(over((1, 2), (-3, 4)), (-2, 3))
        self.assertEqual(over((-1, 2), (3, 4)), (-2, 3))
        self.assertEqual(over((-1, 2), (-3, 4)), (2, 3))
        self.assertEqual(over((3, 4), (1, 1)), (3, 4))
        self.assertEqual(over((3, 4), (-1, 1)), (-3, 4))

    def test_all_small_pairs(self):
        for one in SMALL:
            for other in SMALL:
                with self.subTest(one=one, other=other):
                    self.check_pair(one, other)

    def test_quotient_by_nought_is_refused(self):
        for one in ((0, 1), (1, 2), (-7, 1)):
            with self.assertRaises(NoPart):
                over(one, (0, 1))

    def test_four_thousand_figures(self):
        chance = random.Random(2)
        one = some_part(chance, 4000)
        other = some_part(chance, 4000)
        self.check_pair(one, other)
        self.check_pair(one, one)
        self.check_pair(one, (-one[0], one[1]))
        self.check_pair(one, (other[0] * one[1] + 1, one[1]))


class OrderTest(PartsCase):
    def test_under_both_ways_round(self):
        self.assertIs(under((1, 3), (1, 2)), True)
        self.assertIs(under((1, 2), (1, 3)), False)
        self.assertIs(under((-1, 2), (-1, 3)), True)
        self.assertIs(under((-1, 3), (-1, 2)), False)
        self.assertIs(under((-1, 2), (0, 1)), True)
        self.assertIs(under((0, 1), (-1, 2)), False)

    def test_like_parts_are_not_under_one_another(self):
        for one in ((0, 1), (1, 2), (-5, 3), (10 ** 3999, 7)):
            self.assertIs(under(one, one), False)

    def test_least_both_ways_round(self):
        self.assertEqual(least((1, 3), (1, 2)), (1, 3))
        self.assertEqual(least((1, 2), (1, 3)), (1, 3))
        self.assertEqual(least((-1, 2), (1, 9)), (-1, 2))
        self.assertEqual(least((1, 9), (-1, 2)), (-1, 2))
        self.assertEqual(least((2, 5), (2, 5)), (2, 5))

    def test_all_small_pairs(self):
        for one in SMALL:
            for other in SMALL:
                with self.subTest(one=one, other=other):
                    self.assertIs(under(one, other), fraction(one) < fraction(other))
                    self.check(least(one, other), min(fraction(one), fraction(other)))

    def test_parts_that_are_hardly_unlike(self):
        great = 10 ** 3999
        self.assertIs(under((great, great + 1), (great + 1, great + 2)), True)
        self.assertIs(under((great + 1, great + 2), (great, great + 1)), False)
        self.assertTrue(least((great + 1, great + 2), (great, great + 1)) == (great, great + 1))


class TotalTest(PartsCase):
    def test_of_none(self):
        self.assertEqual(total([]), (0, 1))

    def test_of_one(self):
        self.assertEqual(total([(-3, 7)]), (-3, 7))
        self.assertEqual(total([(0, 1)]), (0, 1))

    def test_of_many(self):
        self.assertEqual(total([(1, 2), (1, 3), (1, 6)]), (1, 1))
        self.assertEqual(total([(1, 2), (1, 2), (-1, 1)]), (0, 1))
        self.assertEqual(total([(1, 4)] * 64), (16, 1))

    def test_by_chance(self):
        chance = random.Random(3)
        for turn in range(30):
            some = [chance.choice(SMALL) for each in range(chance.randrange(65))]
            with self.subTest(turn=turn):
                self.check(total(some), sum((fraction(one) for one in some), Fraction(0)))

    def test_the_list_stays(self):
        some = [(1, 2), (1, 3), (-5, 6)]
        first = total(some)
        self.assertEqual(some, [(1, 2), (1, 3), (-5, 6)])
        self.assertEqual(total(some), first)
        none = []
        total(none)
        self.assertEqual(none, [])

    def test_sixty_four_of_four_thousand_figures(self):
        chance = random.Random(4)
        some = [some_part(chance, 4000) for each in range(64)]
        kept = list(some)
        self.check(total(some), sum((fraction(one) for one in some), Fraction(0)))
        self.assertTrue(some == kept)


class WholeOfTest(PartsCase):
    def check_whole(self, one, expected):
        answer = whole_of(one)
        self.assertIs(type(answer), int)
        self.assertTrue(answer == expected)

    def test_above_and_below_nought(self):
        self.check_whole((7, 2), 3)
        self.check_whole((-7, 2), -4)
        self.check_whole((1, 3), 0)
        self.check_whole((-1, 3), -1)
        self.check_whole((2, 3), 0)
        self.check_whole((-2, 3), -1)

    def test_of_whole_parts(self):
        for number in (0, 1, -1, 5, -5, 10 ** 3999, -(10 ** 3999)):
            self.check_whole((number, 1), number)

    def test_small_parts(self):
        for one in SMALL:
            with self.subTest(one=one):
                self.check_whole(one, math.floor(fraction(one)))

    def test_four_thousand_figures(self):
        chance = random.Random(5)
        one = some_part(chance, 4000)
        self.check_whole(one, math.floor(fraction(one)))
        self.check_whole((10 ** 3999 + 1, 10), 10 ** 3998)
        self.check_whole((-(10 ** 3999) - 1, 10), -(10 ** 3998) - 1)


if __name__ == "__main__":
    unittest.main()
