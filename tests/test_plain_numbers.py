"""A1, A2: sign and order at each op, at ordinary numbers, negative ones and 0."""
import unittest
from fractions import Fraction
from math import isqrt

from ruledroots.rows import order, sign
from tests.helper import GREATEST, LEAST, MINUS, OVER, PLUS, ROOT, TIMES, WHOLE, Row, flat

SOME = (LEAST, -1000000007, -3, -2, -1, 0, 1, 2, 3, 7, 65536, 1000000007, GREATEST)


def told(number):
    return [1 + (number > 0) - (number < 0)]


class WholeNumbers(unittest.TestCase):
    def test_sign(self):
        self.assertEqual(sign([WHOLE, 0, 0, -5]), [0])
        self.assertEqual(sign([WHOLE, 0, 0, 0]), [1])
        self.assertEqual(sign([WHOLE, 0, 0, 5]), [2])
        for v in SOME:
            self.assertEqual(sign([WHOLE, 0, 0, v]), told(v))

    def test_order(self):
        for v in SOME:
            for w in SOME:
                p = flat((WHOLE, 0, 0, v), (WHOLE, 0, 0, w))
                self.assertEqual(order(0, 1, p), told(v - w))
                self.assertEqual(order(1, 0, p), told(w - v))

    def test_sign_is_the_last_step_s(self):
        self.assertEqual(sign(flat((WHOLE, 0, 0, 5), (WHOLE, 0, 0, -5))), [0])
        self.assertEqual(sign(flat((WHOLE, 0, 0, -5), (WHOLE, 0, 0, 5))), [2])


class TwoNumbers(unittest.TestCase):
    """Each op of two whole numbers against the fraction that it is."""

    def agree(self, op, of_two):
        for v in SOME:
            for w in SOME:
                if op == OVER and w == 0:
                    continue
                number = of_two(Fraction(v), Fraction(w))
                p = flat((WHOLE, 0, 0, v), (WHOLE, 0, 0, w), (op, 0, 1, 0))
                self.assertEqual(sign(p), told(number), (v, w))
                self.assertEqual(order(2, 0, p), told(number - v), (v, w))
                self.assertEqual(order(1, 2, p), told(w - number), (v, w))

    def test_sums(self):
        self.agree(PLUS, lambda x, y: x + y)

    def test_differences(self):
        self.agree(MINUS, lambda x, y: x - y)

    def test_products(self):
        self.agree(TIMES, lambda x, y: x * y)

    def test_quotients(self):
        self.agree(OVER, lambda x, y: x / y)

    def test_a_step_with_itself(self):
        for v in SOME:
            for op, number in ((PLUS, 2 * v), (MINUS, 0), (TIMES, v * v)):
                self.assertEqual(sign(flat((WHOLE, 0, 0, v), (op, 0, 0, 0))), told(number))
            if v != 0:
                p = flat((WHOLE, 0, 0, v), (OVER, 0, 0, 0), (WHOLE, 0, 0, 1))
                self.assertEqual(order(1, 2, p), [1])

    def test_fractions(self):
        row = Row()
        third = row.over(row.whole(1), row.whole(3))
        also = row.over(row.whole(-2), row.whole(-6))
        less = row.over(row.whole(715827882), row.whole(GREATEST))
        self.assertEqual(order(third, also, row.p), [1])
        self.assertEqual(order(third, less, row.p), told(Fraction(1, 3) - Fraction(715827882, GREATEST)))
        self.assertEqual(sign(row.p + [MINUS, third, also, 0]), [1])


class Roots(unittest.TestCase):
    def test_sign(self):
        self.assertEqual(sign(flat((WHOLE, 0, 0, 0), (ROOT, 0, 0, 0))), [1])
        for v in (1, 2, 4, 5, GREATEST):
            self.assertEqual(sign(flat((WHOLE, 0, 0, v), (ROOT, 0, 0, 0))), [2])

    def test_against_whole_numbers(self):
        for v in (0, 1, 2, 3, 4, 8, 9, 10, 46340 ** 2 - 1, 46340 ** 2, 46340 ** 2 + 1, GREATEST):
            for w in (-1, 0, isqrt(v) - 1, isqrt(v), isqrt(v) + 1):
                p = flat((WHOLE, 0, 0, v), (ROOT, 0, 0, 0), (WHOLE, 0, 0, w))
                expected = [2] if w < 0 else told(v - w * w)
                self.assertEqual(order(1, 2, p), expected, (v, w))

    def test_roots_keep_the_order(self):
        for v in (0, 1, 2, 3, 1000, GREATEST - 1, GREATEST):
            for w in (0, 1, 2, 3, 1000, GREATEST - 1, GREATEST):
                p = flat((WHOLE, 0, 0, v), (WHOLE, 0, 0, w), (ROOT, 0, 0, 0), (ROOT, 1, 0, 0))
                self.assertEqual(order(2, 3, p), told(v - w))

    def test_square_of_a_root_is_the_number(self):
        for top, bottom in ((0, 1), (1, 1), (2, 1), (4, 9), (2, 3), (-5, -7), (GREATEST, 3), (1, GREATEST)):
            row = Row()
            number = row.over(row.whole(top), row.whole(bottom))
            root = row.root(number)
            square = row.times(root, root)
            self.assertEqual(order(square, number, row.p), [1])
            self.assertGreaterEqual(sign(row.p)[0], 1)

    def test_root_of_a_fraction_below_and_above_one(self):
        for top, bottom, against in ((1, 2, [2]), (3, 2, [0]), (1, 1, [1]), (1, GREATEST, [2]), (GREATEST, 2, [0])):
            row = Row()
            number = row.over(row.whole(top), row.whole(bottom))
            self.assertEqual(order(row.root(number), number, row.p), against)

    def test_below_zero_by_a_root(self):
        row = Row()
        two = row.whole(2)
        below = row.minus(row.whole(1), row.root(two))
        self.assertEqual(sign(row.p), [0])
        square = row.times(below, below)
        self.assertEqual(sign(row.p), [2])
        row.times(square, below)
        self.assertEqual(sign(row.p), [0])


if __name__ == "__main__":
    unittest.main()
