import math
import random
import unittest

from quits.wholes import divisor


class DivisorTest(unittest.TestCase):
    def check(self, one, other, expected):
        for first, second in ((one, other), (other, one)):
            answer = divisor(first, second)
            # Numbers may have more figures than Python will write out, so they are not shown.
            self.assertTrue(answer == expected)
            self.assertIs(type(answer), int)

    def test_ordinary_pairs(self):
        for one, other, expected in ((12, 18, 6), (7, 13, 1), (5, 5, 5), (4, 12, 4), (1, 99, 1), (100, 75, 25)):
            with self.subTest(one=one, other=other):
                self.check(one, other, expected)

    def test_both_signs(self):
        for one in (12, -12):
            for other in (18, -18):
                with self.subTest(one=one, other=other):
                    self.check(one, other, 6)

    def test_nought_and_another(self):
        for other in (1, -1, 7, -7, 10 ** 30, -(10 ** 30)):
            with self.subTest(other=other):
                self.check(0, other, abs(other))

    def test_nought_and_nought(self):
        self.check(0, 0, 0)

    def test_all_small_pairs_by_definition(self):
        for one in range(-12, 13):
            for other in range(-12, 13):
                common = [k for k in range(1, 13) if one % k == 0 and other % k == 0]
                expected = max(common) if one or other else 0
                with self.subTest(one=one, other=other):
                    self.check(one, other, expected)

    def test_thirty_figures(self):
        chance = random.Random(30)
        for turn in range(50):
            shared = chance.randrange(1, 10 ** 12)
            one = shared * chance.randrange(10 ** 17, 10 ** 18) * chance.choice((1, -1))
            other = shared * chance.randrange(10 ** 17, 10 ** 18) * chance.choice((1, -1))
            with self.subTest(turn=turn):
                self.check(one, other, math.gcd(one, other))

    def test_four_thousand_figures(self):
        chance = random.Random(4000)
        shared = chance.randrange(10 ** 1499, 10 ** 1500)
        one = shared * chance.randrange(10 ** 2499, 10 ** 2500)
        other = -shared * chance.randrange(10 ** 2499, 10 ** 2500)
        self.check(one, other, math.gcd(one, other))
        self.check(one, 0, one)
        self.check(one, one, one)
        self.check(10 ** 3999, 1, 1)
        self.check(10 ** 3999, 7, 1)
        self.check(2 ** 13000, 2 ** 12000, 2 ** 12000)

    def test_the_longest_row_of_remainders(self):
        one, other = 1, 1
        while one < 10 ** 3999:
            one, other = one + other, one
        self.check(one, other, 1)


if __name__ == "__main__":
    unittest.main()
