"""A1, A3: the first terms of a number's continued fraction, or all."""
import unittest
from fractions import Fraction

from ruledroots.rows import terms
from tests.helper import GREATEST, LEAST, MINUS, OVER, PLUS, TIMES, WHOLE, Row, first_terms, flat, number_of, pell

SOME = (LEAST, -1000000007, -65537, -3, -2, -1, 0, 1, 2, 3, 7, 65536, 1000000007, GREATEST)


def last(row):
    return len(row.p) // 4 - 1


class Terms(unittest.TestCase):
    def told(self, row, k, *expected):
        self.assertEqual(terms(k, row.p), [len(expected)] * 2 + list(expected), (k, row.p))

    def agree(self, row, number):
        """For each k, so the terms don't hang on how many are asked for."""
        for k in range(1, 17):
            self.told(row, k, *first_terms(Fraction(number), k))

    def by_decimals(self, row):
        self.agree(row, number_of(row.p))


class WholeNumbers(Terms):
    def test_one_term(self):
        for v in SOME:
            row = Row()
            row.whole(v)
            for k in (1, 2, 15, 16):
                self.told(row, k, v)

    def test_sums_differences_products(self):
        for v in SOME:
            for w in SOME:
                for op, number in ((PLUS, v + w), (MINUS, v - w), (TIMES, v * w)):
                    p = flat((WHOLE, 0, 0, v), (WHOLE, 0, 0, w), (op, 0, 1, 0))
                    self.assertEqual(terms(16, p), [1, 1, number])

    def test_far_out(self):
        for values in ([GREATEST] * 8, [LEAST] * 8, [LEAST] * 7, [LEAST] + [GREATEST] * 7):
            number = 1
            for v in values:
                number *= v
            row = Row()
            row.product(*values)
            self.told(row, 16, number)

    def test_made_of_roots(self):
        row = Row()
        row.times(row.root_of(2), row.root_of(8))
        self.told(row, 16, 4)
        row = Row()
        row.minus(row.root(row.plus(row.whole(3), row.root_of(8))), row.root_of(2))
        self.told(row, 16, 1)
        row.negative(last(row))
        self.told(row, 16, -1)
        row = Row()
        row.minus(row.plus(row.root_of(2), row.root_of(8)), row.root_of(18))
        self.told(row, 16, 0)

    def test_it_is_the_last_step_s(self):
        self.assertEqual(terms(3, flat((WHOLE, 0, 0, 5), (WHOLE, 0, 0, -7))), [1, 1, -7])


class Fractions(Terms):
    def test_known_ones(self):
        for top, bottom, expected in (
                (1, 2, [0, 2]), (22, 7, [3, 7]), (355, 113, [3, 7, 16]), (3, 4, [0, 1, 3]), (4, 3, [1, 3]),
                (-1, 2, [-1, 2]), (-22, 7, [-4, 1, 6]), (-4, 3, [-2, 1, 2]), (1, GREATEST, [0, GREATEST]),
                (-1, GREATEST, [-1, 1, GREATEST - 1]), (6, 4, [1, 2]), (10, 5, [2]), (5, -10, [-1, 2])):
            row = Row()
            row.fraction(top, bottom)
            self.told(row, 16, *expected)
            for k in range(1, 17):
                self.told(row, k, *expected[:k])

    def test_all_of_some(self):
        for v in SOME:
            for w in SOME:
                if w != 0:
                    p = flat((WHOLE, 0, 0, v), (WHOLE, 0, 0, w), (OVER, 0, 1, 0))
                    for k in (1, 2, 5, 15, 16):
                        expected = first_terms(Fraction(v, w), k)
                        self.assertEqual(terms(k, p), [len(expected)] * 2 + expected)

    def test_just_as_many_as_asked_for_and_one_more(self):
        # Quotients of neighbours of Fibonacci have ones, and a 2 at the end.
        x, y = 1, 2
        while len(first_terms(Fraction(y, x), 99)) < 18:
            expected = first_terms(Fraction(y, x), 99)
            row = Row()
            row.fraction(y, x)
            self.told(row, 16, *expected[:16])
            self.told(row, min(16, len(expected)), *expected[:16])
            x, y = y, x + y

    def test_many_small_and_many_large_terms(self):
        row = Row()
        row.fraction(1836311903, 1134903170)
        self.told(row, 16, *[1] * 16)
        row = Row()
        row.plus(row.whole(5), row.over(row.whole(1), row.plus(row.whole(GREATEST), row.fraction(1, GREATEST))))
        self.told(row, 16, 5, GREATEST, GREATEST)

    def test_made_of_roots(self):
        row = Row()
        row.root(row.fraction(9, 4))
        self.told(row, 16, 1, 2)
        row.negative(last(row))
        self.told(row, 16, -2, 2)
        row = Row()
        row.over(row.root_of(18), row.root_of(32))
        self.told(row, 16, 0, 1, 3)
        row = Row()
        one = row.minus(row.root(row.plus(row.whole(3), row.root_of(8))), row.root_of(2))
        row.times(one, row.fraction(355, 113))
        self.told(row, 16, 3, 7, 16)
        row.negative(last(row))
        self.told(row, 16, -4, 1, 6, 16)
        row = Row()
        row.root(row.root(row.root(row.over(row.power(9 ** 4, 2), row.power(7 ** 8, 1)))))
        self.agree(row, Fraction(9, 7))

    def test_made_of_roots_with_many_terms(self):
        row = Row()
        one = row.over(row.root_of(18), row.times(row.whole(3), row.root_of(2)))
        row.times(one, row.fraction(1836311903, 1134903170))
        self.agree(row, Fraction(1836311903, 1134903170))


class Roots(Terms):
    def test_known_ones(self):
        for v, expected in (
                (2, [1] + [2] * 15), (3, [1] + [1, 2] * 7 + [1]), (5, [2] + [4] * 15), (7, [2] + [1, 1, 1, 4] * 4),
                (13, [3] + [1, 1, 1, 1, 6] * 3), (46340 ** 2 + 1, [46340] + [92680] * 15)):
            row = Row()
            row.root_of(v)
            for k in range(1, 17):
                self.told(row, k, *expected[:k])

    def test_golden_section(self):
        row = Row()
        row.over(row.plus(row.whole(1), row.root_of(5)), row.whole(2))
        for k in range(1, 17):
            self.told(row, k, *[1] * k)

    def test_below_zero(self):
        row = Row()
        row.negative(row.root_of(2))
        self.told(row, 16, -2, 1, 1, *[2] * 13)
        row = Row()
        row.minus(row.whole(1), row.root_of(2))
        self.told(row, 16, -1, 1, 1, *[2] * 13)
        row = Row()
        row.over(row.whole(-1), row.root_of(GREATEST))
        self.by_decimals(row)

    def test_roots_within_roots(self):
        row = Row()
        row.root(row.plus(row.whole(3), row.root(row.plus(row.whole(5), row.root_of(7)))))
        self.by_decimals(row)
        row.minus(last(row), row.whole(100))
        self.by_decimals(row)
        row = Row()
        total = row.plus(row.plus(row.root_of(2), row.root_of(3)), row.root_of(5))
        self.by_decimals(row)
        row.over(row.whole(-1), total)
        self.by_decimals(row)

    def test_one_number_made_in_two_ways(self):
        row = Row()
        row.root(row.plus(row.whole(3), row.root_of(8)))
        self.told(row, 16, *[2] * 16)
        row = Row()
        row.plus(row.root_of(2), row.over(row.root_of(3), row.root_of(3)))
        self.told(row, 16, *[2] * 16)

    def test_far_out(self):
        row = Row()
        row.times(row.power(GREATEST, 7), row.root_of(GREATEST))
        self.by_decimals(row)
        for x, y in pell(GREATEST).values():
            row = Row()
            small = row.minus(row.whole(x), row.times(row.whole(y), row.root_of(2)))
            row.over(row.power(GREATEST, 4), small)
            self.by_decimals(row)


class NearAFraction(Terms):
    def large_term(self, row, bits):
        """By decimals, and one of the terms has so many bits at least."""
        self.by_decimals(row)
        self.assertGreaterEqual(max(abs(term).bit_length() for term in terms(16, row.p)[3:]), bits)

    def test_by_a_fraction(self):
        for top, bottom in ((1, 1), (3, 2), (-3, 2), (22, 7), (0, 1)):
            for op in (PLUS, MINUS):
                row = Row()
                row.step(op, row.fraction(top, bottom), row.over(row.whole(1), row.power(GREATEST, 4)))
                self.large_term(row, 110)

    def test_by_a_small_difference_of_roots(self):
        for x, y in pell(GREATEST).values():
            for top, bottom in ((3, 2), (-22, 7), (355, 113)):
                for op in (PLUS, MINUS):
                    row = Row()
                    small = row.minus(row.whole(x), row.times(row.whole(y), row.root_of(2)))
                    row.step(op, row.fraction(top, bottom), row.over(small, row.whole(GREATEST)))
                    self.large_term(row, 45)
            row = Row()
            small = row.minus(row.whole(x), row.times(row.whole(y), row.root_of(2)))
            row.plus(row.whole(5), row.times(small, small))
            self.large_term(row, 60)

    def test_by_roots_nearly_of_a_power(self):
        for step in (1, -1):
            row = Row()
            row.root(row.root(row.root(row.plus(row.power(46340 ** 2, 4), row.whole(step)))))
            self.large_term(row, 110)
            row.over(last(row), row.whole(7))
            self.large_term(row, 100)
            row = Row()
            near = row.plus(row.whole(1), row.over(row.whole(step), row.power(GREATEST, 5)))
            row.root(row.root(row.root(near)))
            self.large_term(row, 150)
            row = Row()
            near = row.plus(row.whole(1), row.over(row.whole(step), row.power(GREATEST, 3)))
            row.times(row.root(row.root(row.root(near))), row.fraction(3, 2))
            self.large_term(row, 85)

    def test_the_large_term_of_a_root(self):
        # The root of v v + 1 is v and 1 over 2 v, and so on.
        row = Row()
        row.root(row.plus(row.power(GREATEST, 2), row.whole(1)))
        self.told(row, 16, GREATEST, *[2 * GREATEST] * 15)
        row = Row()
        row.root(row.minus(row.power(GREATEST, 2), row.whole(1)))
        self.told(row, 16, GREATEST - 1, *[1, 2 * GREATEST - 2] * 7, 1)


if __name__ == "__main__":
    unittest.main()
