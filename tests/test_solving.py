import copy
import random
import unittest
from fractions import Fraction

from quits.errors import NoAnswer
from quits.solving import solved
from tests.helper import as_part, fraction, is_part


def some_part(chance, figures):
    top = chance.randrange(10 ** (figures - 1), 10 ** figures) * chance.choice((1, -1))
    return as_part(Fraction(top, chance.randrange(10 ** (figures - 1), 10 ** figures)))


def small_part(chance):
    return as_part(Fraction(chance.randrange(-2, 3), chance.randrange(1, 3)))


def determinant(rows):
    """By the rows' permutations: slow, but another way."""
    if rows == []:
        return Fraction(1)
    others = [[row[:place] + row[place + 1:] for row in rows[1:]] for place in range(len(rows))]
    return sum((-1) ** place * rows[0][place] * determinant(others[place]) for place in range(len(rows)))


class SolvedTest(unittest.TestCase):
    def check(self, rows, right):
        kept = copy.deepcopy((rows, right))
        answer = solved(rows, right)
        # Numbers may have more figures than Python will write out, so they are not shown.
        self.assertTrue((rows, right) == kept)
        self.assertIs(type(answer), list)
        self.assertEqual(len(answer), len(rows))
        self.assertTrue(all(is_part(one) for one in answer))
        for row, wanted in zip(rows, right):
            met = sum(fraction(one) * fraction(other) for one, other in zip(row, answer))
            self.assertTrue(met == fraction(wanted))
        return answer

    def refused(self, rows, right):
        kept = copy.deepcopy((rows, right))
        with self.assertRaises(NoAnswer):
            solved(rows, right)
        self.assertTrue((rows, right) == kept)

    def test_one_unknown(self):
        self.assertEqual(self.check([[(2, 3)]], [(5, 1)]), [(15, 2)])
        self.assertEqual(self.check([[(-2, 3)]], [(0, 1)]), [(0, 1)])

    def test_two_unknowns(self):
        self.assertEqual(self.check([[(1, 1), (1, 1)], [(1, 1), (-1, 1)]], [(3, 1), (0, 1)]), [(3, 2), (3, 2)])

    def test_other_rows_first(self):
        nought, one = (0, 1), (1, 1)
        rows = [[nought, nought, one], [one, nought, nought], [nought, one, nought]]
        self.assertEqual(self.check(rows, [(7, 1), (8, 1), (9, 1)]), [(8, 1), (9, 1), (7, 1)])
        rows = [[nought, (2, 1)], [(3, 1), nought]]
        self.assertEqual(self.check(rows, [(1, 1), (1, 1)]), [(1, 3), (1, 2)])
        # Here the need of another row shows only on the way.
        rows = [[one, one, one], [one, one, (2, 1)], [one, (2, 1), one]]
        self.check(rows, [(1, 1), (2, 1), (3, 1)])

    def test_all_rows_turned(self):
        for count in range(1, 10):
            rows = [[(1, place + 1) if place + number == count - 1 else (0, 1) for place in range(count)] for number in range(count)]
            with self.subTest(count=count):
                self.check(rows, [(number, 7) if number % 7 else (number // 7, 1) for number in range(count)])

    def test_no_answer(self):
        self.refused([[(0, 1)]], [(1, 1)])
        self.refused([[(1, 1), (2, 1)], [(2, 1), (4, 1)]], [(1, 1), (3, 1)])
        self.refused([[(1, 2), (1, 3)], [(0, 1), (0, 1)]], [(1, 1), (1, 1)])

    def test_more_than_one_answer(self):
        self.refused([[(0, 1)]], [(0, 1)])
        self.refused([[(1, 1), (2, 1)], [(2, 1), (4, 1)]], [(1, 1), (2, 1)])
        self.refused([[(0, 1)] * 9 for number in range(9)], [(0, 1)] * 9)

    def test_a_sum_of_rows_among_nine(self):
        chance = random.Random(31)
        rows = [[some_part(chance, 5) for place in range(9)] for number in range(8)]
        rows.insert(4, [as_part(sum(map(fraction, column), Fraction(0))) for column in zip(*rows)])
        self.refused(rows, [(1, 1)] * 9)
        self.refused(rows, [(0, 1)] * 9)

    def test_just_where_the_determinant_is_not_nought(self):
        chance = random.Random(32)
        seen = set()
        for turn in range(400):
            count = chance.randrange(1, 5)
            rows = [[small_part(chance) for place in range(count)] for number in range(count)]
            right = [small_part(chance) for number in range(count)]
            one_answer = determinant([[fraction(one) for one in row] for row in rows]) != 0
            seen.add((count, one_answer))
            with self.subTest(turn=turn):
                if one_answer:
                    self.check(rows, right)
                else:
                    self.refused(rows, right)
        self.assertEqual(len(seen), 8)

    def test_each_count_by_chance(self):
        chance = random.Random(33)
        for count in range(1, 10):
            for figures in (1, 6, 20):
                rows = [[some_part(chance, figures) for place in range(count)] for number in range(count)]
                with self.subTest(count=count, figures=figures):
                    self.check(rows, [some_part(chance, figures) for number in range(count)])

    def test_sixty_figures(self):
        chance = random.Random(34)
        rows = [[some_part(chance, 60) for place in range(9)] for number in range(9)]
        self.check(rows, [some_part(chance, 60) for number in range(9)])

    def test_told_lists_are_new(self):
        rows = [[(1, 1)]]
        right = [(4, 1)]
        solved(rows, right).clear()
        self.assertEqual(right, [(4, 1)])
        answer = solved(rows, right)
        right[0] = (5, 1)
        self.assertEqual(answer, [(4, 1)])


if __name__ == "__main__":
    unittest.main()
