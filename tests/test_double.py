"""A1, A3: the double to which a number is rounded, by each mode."""
import unittest
from fractions import Fraction

from ruledroots.doubles import double_of
from ruledroots.rows import double
from ruledroots.tower import Number
from tests.helper import (
    GREATEST, LEAST, MINUS, OVER, PLUS, TIMES, WHOLE, Row, double_bits, flat, number_of, pell, rounded_bits)

SOME = (LEAST, -1000000007, -65537, -3, -2, -1, 0, 1, 2, 3, 7, 65536, 1000000007, GREATEST)
MODES = range(4)


def last(row):
    return len(row.p) // 4 - 1


class Doubles(unittest.TestCase):
    def told(self, row, number):
        """By each mode as the fraction is rounded."""
        for mode in MODES:
            self.assertEqual(double(mode, row.p), [0, 1, rounded_bits(mode, Fraction(number))], (mode, row.p))

    def by_decimals(self, row):
        self.told(row, number_of(row.p))

    def by_mode(self, row, *doubles):
        for mode in MODES:
            self.assertEqual(double(mode, row.p), [0, 1, double_bits(doubles[mode])], (mode, row.p))

    def between(self, row, low, high, nearest):
        """For a number between these two doubles, which lies on this side of 0."""
        self.by_mode(row, nearest, low, high, low if low >= 0 else high)


class Ordinary(Doubles):
    def test_known_bits(self):
        for v, bits in ((0, 0), (1, 0x3FF0000000000000), (-1, 0xBFF0000000000000), (2, 0x4000000000000000),
                        (3, 0x4008000000000000), (-7, 0xC01C000000000000)):
            for mode in MODES:
                self.assertEqual(double(mode, [WHOLE, 0, 0, v]), [0, 1, bits])

    def test_known_bits_of_a_third_and_a_root(self):
        row = Row()
        row.fraction(1, 3)
        low = 0x3FD5555555555555
        self.assertEqual([double(mode, row.p)[2] for mode in MODES], [low, low, low + 1, low])
        row = Row()
        row.fraction(-1, 3)
        low += 1 << 63
        self.assertEqual([double(mode, row.p)[2] for mode in MODES], [low, low + 1, low, low])
        row = Row()
        row.root_of(2)
        high = 0x3FF6A09E667F3BCD
        self.assertEqual([double(mode, row.p)[2] for mode in MODES], [high, high - 1, high, high - 1])
        row.negative(last(row))
        high += 1 << 63
        self.assertEqual([double(mode, row.p)[2] for mode in MODES], [high, high, high - 1, high - 1])

    def test_whole_numbers(self):
        for v in SOME:
            self.assertEqual([double(mode, [WHOLE, 0, 0, v]) for mode in MODES], [[0, 1, double_bits(v)]] * 4)

    def test_sums_differences_products(self):
        for v in SOME:
            for w in SOME:
                for op, number in ((PLUS, v + w), (MINUS, v - w), (TIMES, v * w)):
                    p = flat((WHOLE, 0, 0, v), (WHOLE, 0, 0, w), (op, 0, 1, 0))
                    for mode in MODES:
                        self.assertEqual(double(mode, p), [0, 1, rounded_bits(mode, Fraction(number))])

    def test_fractions(self):
        for v in SOME:
            for w in SOME:
                if w != 0:
                    p = flat((WHOLE, 0, 0, v), (WHOLE, 0, 0, w), (OVER, 0, 1, 0))
                    for mode in MODES:
                        self.assertEqual(double(mode, p), [0, 1, rounded_bits(mode, Fraction(v, w))])

    def test_roots(self):
        for v in (0, 1, 2, 3, 4, 5, 7, 9, 1000, 46340 ** 2 - 1, 46340 ** 2, GREATEST):
            row = Row()
            row.root_of(v)
            self.by_decimals(row)
            row.negative(last(row))
            self.by_decimals(row)

    def test_roots_within_roots(self):
        row = Row()
        row.root(row.plus(row.whole(3), row.root(row.plus(row.whole(5), row.root_of(7)))))
        self.by_decimals(row)
        row.minus(last(row), row.whole(100))
        self.by_decimals(row)

    def test_it_is_the_last_step_s(self):
        self.assertEqual(double(0, flat((WHOLE, 0, 0, 5), (WHOLE, 0, 0, -7))), [0, 1, double_bits(-7)])


class Zero(Doubles):
    def zero(self, row):
        for mode in MODES:
            self.assertEqual(double(mode, row.p), [0, 1, 0])

    def test_without_roots(self):
        row = Row()
        zero = row.whole(0)
        self.zero(row)
        row.negative(zero)
        self.zero(row)
        row.times(row.whole(-5), zero)
        self.zero(row)
        row.over(zero, row.whole(-5))
        self.zero(row)
        row = Row()
        row.minus(row.whole(LEAST), row.whole(LEAST))
        self.zero(row)

    def test_of_roots(self):
        row = Row()
        row.root_of(0)
        self.zero(row)
        row = Row()
        root = row.root_of(7)
        row.minus(root, root)
        self.zero(row)
        row = Row()
        row.minus(row.whole(3), row.root_of(9))
        self.zero(row)
        row.times(last(row), row.whole(-1))
        self.zero(row)

    def test_of_several_roots(self):
        row = Row()
        total = row.plus(row.root_of(2), row.root_of(8))
        row.minus(row.root_of(18), total)
        self.zero(row)
        row = Row()
        outer = row.root(row.plus(row.whole(3), row.root_of(8)))
        row.minus(outer, row.plus(row.whole(1), row.root_of(2)))
        self.zero(row)
        row.negative(last(row))
        self.zero(row)


class JustADouble(Doubles):
    def exact(self, row, number):
        self.by_mode(row, *[number] * 4)

    def test_whole_numbers(self):
        row = Row()
        row.product(2 ** 26, 2 ** 27)
        self.exact(row, 2.0 ** 53)
        row.minus(last(row), row.whole(1))
        self.exact(row, 2.0 ** 53 - 1)
        row = Row()
        row.plus(row.product(2 ** 26, 2 ** 27), row.whole(2))
        self.exact(row, 2.0 ** 53 + 2)

    def test_fractions(self):
        for top, bottom in ((1, 2), (3, 8), (-5, 1024), (GREATEST, 2 ** 30), (1, LEAST), (-7, -4), (21, 7)):
            row = Row()
            row.fraction(top, bottom)
            self.exact(row, top / bottom)

    def test_of_roots(self):
        row = Row()
        row.root(row.fraction(9, 4))
        self.exact(row, 1.5)
        row.negative(last(row))
        self.exact(row, -1.5)
        row = Row()
        row.over(row.root_of(18), row.root_of(32))
        self.exact(row, 0.75)
        row = Row()
        row.root(row.root(row.root(row.power(46339 ** 2, 4))))
        self.exact(row, 46339.0)


class TheMiddle(Doubles):
    """Just in the middle between two doubles, just above it and just below it."""

    # An odd product of 54 bits is in the middle; which neighbour's last bit is 0 hangs on the bit before.
    EVEN_BELOW = (134217727, 134217723)
    EVEN_ABOVE = (134217727, 134217721)

    def neighbours(self, number):
        self.assertEqual((number.bit_length(), number % 2), (54, 1))
        return float(number - 1), float(number + 1)

    def test_the_two_are_what_they_should_be(self):
        self.assertEqual(self.EVEN_BELOW[0] * self.EVEN_BELOW[1] % 4, 1)
        self.assertEqual(self.EVEN_ABOVE[0] * self.EVEN_ABOVE[1] % 4, 3)

    def each(self):
        """The factors, the doubles beside their product, and the even one."""
        for factors in (self.EVEN_BELOW, self.EVEN_ABOVE):
            low, high = self.neighbours(factors[0] * factors[1])
            yield factors, low, high, low if factors == self.EVEN_BELOW else high

    def test_small_ones(self):
        row = Row()
        row.plus(row.product(2 ** 26, 2 ** 27), row.whole(1))
        self.between(row, 2.0 ** 53, 2.0 ** 53 + 2, 2.0 ** 53)
        row = Row()
        row.plus(row.product(2 ** 26, 2 ** 27), row.whole(3))
        self.between(row, 2.0 ** 53 + 2, 2.0 ** 53 + 4, 2.0 ** 53 + 4)
        for top, low, high, nearest in ((1, 1, 1 + 2 ** -52, 1), (3, 1 + 2 ** -52, 1 + 2 ** -51, 1 + 2 ** -51)):
            row = Row()
            row.plus(row.whole(1), row.over(row.whole(top), row.product(2 ** 26, 2 ** 27)))
            self.between(row, low, high, nearest)
            row.negative(last(row))
            self.between(row, -high, -low, -nearest)

    def test_products(self):
        for factors, low, high, even in self.each():
            row = Row()
            row.product(*factors)
            self.between(row, low, high, even)
            row.negative(last(row))
            self.between(row, -high, -low, -even)

    def test_made_of_roots(self):
        for factors, low, high, even in self.each():
            row = Row()
            product = row.product(*factors)
            row.root(row.times(product, product))
            self.between(row, low, high, even)
            row = Row()
            product = row.product(*factors)
            nothing = row.minus(row.whole(4), row.times(row.root_of(2), row.root_of(8)))
            row.plus(product, nothing)
            self.between(row, low, high, even)
            row.negative(last(row))
            self.between(row, -high, -low, -even)

    def test_beside_it_by_a_fraction(self):
        for factors, low, high, _ in self.each():
            for op, nearest in ((PLUS, high), (MINUS, low)):
                row = Row()
                row.step(op, row.product(*factors), row.over(row.whole(1), row.power(GREATEST, 4)))
                self.between(row, low, high, nearest)
                row = Row()
                row.step(op, row.product(-factors[0], factors[1]), row.over(row.whole(1), row.power(GREATEST, 3)))
                self.between(row, -high, -low, -low if op == PLUS else -high)

    def test_beside_it_by_a_small_difference_of_roots(self):
        for factors, low, high, _ in self.each():
            for side, (x, y) in pell(GREATEST).items():
                row = Row()
                small = row.minus(row.whole(x), row.times(row.whole(y), row.root_of(2)))
                small = row.over(small, row.power(GREATEST, 2))
                row.plus(row.product(*factors), small)
                self.between(row, low, high, high if side > 0 else low)
                row.p[-4] = MINUS
                self.between(row, low, high, low if side > 0 else high)

    def test_beside_it_by_a_root_nearly_of_a_square(self):
        for factors, low, high, even in self.each():
            for step, nearest in ((1, high), (0, even), (-1, low)):
                row = Row()
                product = row.product(*factors)
                row.root(row.plus(row.times(product, product), row.whole(step)))
                self.between(row, low, high, nearest)

    def test_beside_it_by_an_eighth_root(self):
        # 46339 times the other two has 54 bits and is odd.
        for others in ((1048573, 262147), (1048573, 262145)):
            number = 46339 * others[0] * others[1]
            low, high = self.neighbours(number)
            even = low if number % 4 == 1 else high
            for step, nearest in ((1, high), (0, even), (-1, low)):
                row = Row()
                root = row.root(row.root(row.root(row.plus(row.power(46339 ** 2, 4), row.whole(step)))))
                row.times(root, row.product(*others))
                self.between(row, low, high, nearest)


class NextPowerOfTwo(Doubles):
    def half_below(self):
        """2^53 less a half."""
        row = Row()
        row.over(row.product(2 ** 27 - 1, 2 ** 27 + 1), row.whole(2))
        return row

    def test_a_half_below(self):
        row = self.half_below()
        self.told(row, Fraction(2 ** 54 - 1, 2))
        self.between(row, 2.0 ** 53 - 1, 2.0 ** 53, 2.0 ** 53)
        row.negative(last(row))
        self.between(row, -2.0 ** 53, 1 - 2.0 ** 53, -2.0 ** 53)

    def test_less_or_more_than_a_half_below(self):
        for op, nearest in ((PLUS, 2.0 ** 53), (MINUS, 2.0 ** 53 - 1)):
            row = self.half_below()
            row.step(op, last(row), row.over(row.whole(1), row.power(GREATEST, 3)))
            self.between(row, 2.0 ** 53 - 1, 2.0 ** 53, nearest)
            row = self.half_below()
            x, y = pell(GREATEST)[1]
            half = last(row)
            row.step(op, half, row.minus(row.whole(x), row.times(row.whole(y), row.root_of(2))))
            self.between(row, 2.0 ** 53 - 1, 2.0 ** 53, nearest)

    def test_a_whole_number_of_54_bits_and_one_below_1(self):
        row = Row()
        row.product(2 ** 27 - 1, 2 ** 27 + 1)
        self.between(row, 2.0 ** 54 - 2, 2.0 ** 54, 2.0 ** 54)
        row = Row()
        row.over(row.product(2 ** 27 - 1, 2 ** 27 + 1), row.product(2 ** 27, 2 ** 27))
        self.between(row, 1 - 2.0 ** -53, 1.0, 1.0)

    def test_roots_just_below(self):
        for v, n in ((GREATEST, 2), (GREATEST, 4)):
            row = Row()
            near = row.minus(row.whole(1), row.over(row.whole(1), row.power(v, n)))
            row.root(near)
            self.between(row, 1 - 2.0 ** -53, 1.0, 1.0)
            row.root(last(row))
            self.between(row, 1 - 2.0 ** -53, 1.0, 1.0)

    def test_just_above(self):
        row = Row()
        row.root(row.plus(row.whole(4), row.over(row.whole(1), row.power(GREATEST, 4))))
        self.between(row, 2.0, 2.0 + 2.0 ** -51, 2.0)

    def test_each_quarter_below(self):
        for quarters in range(1, 9):
            row = Row()
            row.minus(row.product(2 ** 26, 2 ** 27), row.fraction(quarters, 4))
            self.told(row, 2 ** 53 - Fraction(quarters, 4))


class BelowZero(Doubles):
    def test_modes_one_two_three(self):
        for top, bottom in ((1, 3), (2, 3), (10, 7), (GREATEST, 3), (1, 1000000007)):
            row = Row()
            row.fraction(-top, bottom)
            above = Row()
            above.fraction(top, bottom)
            low, high = (double(mode, above.p)[2] for mode in (1, 2))
            self.assertEqual(high, low + 1)
            sign = 1 << 63
            self.assertEqual([double(mode, row.p)[2] - sign for mode in (1, 2, 3)], [high, low, low])

    def test_roots(self):
        for v in (2, 3, 5, GREATEST):
            row = Row()
            row.negative(row.root_of(v))
            self.by_decimals(row)
            row = Row()
            row.minus(row.whole(1), row.root_of(v))
            self.by_decimals(row)


class LargestAndSmallest(Doubles):
    def test_products_of_eight(self):
        for v in (LEAST, GREATEST, -GREATEST):
            row = Row()
            row.power(v, 8)
            self.told(row, v ** 8)
        row = Row()
        row.power(LEAST, 8)
        self.by_mode(row, *[2.0 ** 248] * 4)
        row = Row()
        row.product(LEAST, *[GREATEST] * 7)
        self.told(row, LEAST * GREATEST ** 7)

    def test_over_products_of_seven(self):
        for v in (LEAST, GREATEST, -GREATEST):
            for top in (1, -1, 3):
                row = Row()
                row.over(row.whole(top), row.power(v, 7))
                self.told(row, Fraction(top, v ** 7))
        row = Row()
        row.over(row.whole(1), row.power(LEAST, 7))
        self.by_mode(row, *[-2.0 ** -217] * 4)

    def test_small_differences_of_roots(self):
        for op in (PLUS, MINUS):
            row = Row()
            near = row.step(op, row.whole(1), row.over(row.whole(1), row.power(GREATEST, 4)))
            row.minus(row.root(row.root(row.root(near))), row.whole(1))
            self.by_decimals(row)
        for x, y in pell(GREATEST).values():
            row = Row()
            small = row.minus(row.whole(x), row.times(row.whole(y), row.root_of(2)))
            square = row.times(small, small)
            self.by_decimals(row)
            row.over(square, row.whole(GREATEST))
            self.by_decimals(row)
            row = Row()
            small = row.minus(row.whole(x), row.times(row.whole(y), row.root_of(2)))
            row.over(row.power(GREATEST, 4), small)
            self.by_decimals(row)


class BeyondRows(Doubles):
    """Ends of the doubles that no row of steps here is known to reach."""

    def agree(self, number):
        for signed in (Fraction(number), -Fraction(number)):
            x = Number([signed.numerator], signed.denominator)
            for mode in MODES:
                self.assertEqual(double_of(mode, x, {}), rounded_bits(mode, signed), (mode, signed))

    def test_near_the_least_double(self):
        least = Fraction(1, 2 ** 1074)
        for quarters in range(1, 20):
            self.agree(least * quarters / 4)
        for off in (-1, 1):
            self.agree(least / 2 + off * least ** 2)
            self.agree(least * 3 / 2 + off * least ** 2)
        self.agree(least ** 2)

    def test_where_doubles_lose_bits(self):
        unit = Fraction(1, 2 ** 1074)
        for kept in (2 ** 51, 2 ** 52 - 1, 2 ** 52, 2 ** 53 - 1, 2 ** 53):
            for quarters in range(-4, 5):
                self.agree(unit * (kept + Fraction(quarters, 4)))

    def test_near_the_greatest_double(self):
        greatest = (2 ** 53 - 1) * 2 ** 971
        for quarters in range(-8, 9):
            self.agree(greatest + quarters * 2 ** 969)
        self.agree(2 ** 1100)
        self.agree(Fraction(2 ** 2000, 3))


if __name__ == "__main__":
    unittest.main()
