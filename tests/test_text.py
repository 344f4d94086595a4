"""A1, A3: a number in decimal, rounded once, of two texts as near to the one whose last digit is even."""
import unittest
from fractions import Fraction
from math import isqrt

from ruledroots.digits import digits_of
from ruledroots.rows import text
from ruledroots.tower import Number
from tests.helper import (
    GREATEST, LEAST, MINUS, OVER, PLUS, TIMES, WHOLE, Row, decimal_text, flat, number_of, pell, text_answer)

SOME = (LEAST, -1000000007, -1000, -65, -9, -1, 0, 1, 2, 3, 7, 10, 99, 65536, 1000000000, GREATEST)
PLACES = (0, 1, 2, 3, 7, 30, 99, 100)


def last(row):
    return len(row.p) // 4 - 1


class Texts(unittest.TestCase):
    def told(self, row, places, expected):
        self.assertEqual(text(places, row.p), text_answer(expected), (places, row.p))

    def agree(self, row, number, places=PLACES):
        for count in places:
            self.told(row, count, decimal_text(Fraction(number), count))

    def by_decimals(self, row, places=PLACES):
        self.agree(row, number_of(row.p), places)

    def both_sides(self, row, places, expected):
        """The row's text, and its opposite's, behind a - if not all digits are 0."""
        self.told(row, places, expected)
        row.negative(last(row))
        self.told(row, places, expected if not expected.strip("0.") else "-" + expected)


class Ordinary(Texts):
    def test_bytes(self):
        self.assertEqual(text(0, [WHOLE, 0, 0, 0]), [1, 1, 48])
        self.assertEqual(text(0, [WHOLE, 0, 0, -12]), [3, 3, 45, 49, 50])
        self.assertEqual(text(2, [WHOLE, 0, 0, -12]), [6, 6, 45, 49, 50, 46, 48, 48])
        row = Row()
        row.root_of(2)
        self.assertEqual(text(3, row.p), [5, 5, 49, 46, 52, 49, 52])

    def test_known_texts(self):
        for top, bottom, places, expected in (
                (1, 3, 0, "0"), (1, 3, 1, "0.3"), (1, 3, 5, "0.33333"), (2, 3, 0, "1"), (2, 3, 4, "0.6667"),
                (-2, 3, 4, "-0.6667"), (22, 7, 10, "3.1428571429"), (-22, 7, 0, "-3"), (100, 1, 1, "100.0"),
                (1, 1000, 3, "0.001"), (-1, 1000, 3, "-0.001"), (123456789, 1000, 2, "123456.79")):
            row = Row()
            row.fraction(top, bottom)
            self.told(row, places, expected)

    def test_a_hundred_places_of_roots(self):
        for v in (2, 3, 5, 10, GREATEST):
            row = Row()
            row.root_of(v)
            digits = str((isqrt(v * 10 ** 202) + 5) // 10)
            self.both_sides(row, 100, digits[:-100] + "." + digits[-100:])

    def test_whole_numbers(self):
        for v in SOME:
            row = Row()
            row.whole(v)
            self.told(row, 0, str(v))
            self.told(row, 1, str(v) + ".0")
            self.told(row, 100, str(v) + "." + "0" * 100)

    def test_sums_differences_products(self):
        for v in SOME:
            for w in SOME:
                for op, number in ((PLUS, v + w), (MINUS, v - w), (TIMES, v * w)):
                    p = flat((WHOLE, 0, 0, v), (WHOLE, 0, 0, w), (op, 0, 1, 0))
                    self.assertEqual(text(0, p), text_answer(str(number)))
                    self.assertEqual(text(3, p), text_answer(str(number) + ".000"))

    def test_fractions(self):
        for v in SOME:
            for w in SOME:
                if w != 0:
                    p = flat((WHOLE, 0, 0, v), (WHOLE, 0, 0, w), (OVER, 0, 1, 0))
                    for places in PLACES:
                        self.assertEqual(text(places, p), text_answer(decimal_text(Fraction(v, w), places)))

    def test_each_count_of_places(self):
        row = Row()
        row.fraction(-1000000, 7)
        self.agree(row, Fraction(-1000000, 7), range(101))
        row = Row()
        row.root_of(1000)
        self.by_decimals(row, range(101))

    def test_roots(self):
        for v in (0, 1, 2, 3, 4, 99, 100, 101, 46340 ** 2 - 1, GREATEST):
            row = Row()
            row.root_of(v)
            self.by_decimals(row)
            row.negative(last(row))
            self.by_decimals(row)

    def test_roots_within_roots(self):
        row = Row()
        row.root(row.plus(row.whole(3), row.root(row.plus(row.whole(5), row.root_of(7)))))
        self.by_decimals(row)
        row.minus(last(row), row.whole(100))
        self.by_decimals(row)

    def test_zero_made_in_several_ways(self):
        for made in (lambda row: row.whole(0),
                     lambda row: row.negative(row.whole(0)),
                     lambda row: row.times(row.whole(-3), row.root_of(0)),
                     lambda row: row.minus(row.whole(3), row.root_of(9)),
                     lambda row: row.minus(row.root_of(18), row.plus(row.root_of(2), row.root_of(8)))):
            row = Row()
            made(row)
            self.told(row, 0, "0")
            self.told(row, 1, "0.0")
            self.told(row, 100, "0." + "0" * 100)

    def test_it_is_the_last_step_s(self):
        self.assertEqual(text(0, flat((WHOLE, 0, 0, 5), (WHOLE, 0, 0, -7))), text_answer("-7"))


class TheMiddle(Texts):
    def test_without_places(self):
        for top, expected in ((1, "0"), (3, "2"), (5, "2"), (7, "4"), (19, "10"), (21, "10"), (199, "100")):
            row = Row()
            row.fraction(top, 2)
            self.both_sides(row, 0, expected)

    def test_with_places(self):
        for top, bottom, places, expected in (
                (1, 4, 1, "0.2"), (3, 4, 1, "0.8"), (1, 8, 2, "0.12"), (3, 8, 2, "0.38"), (1, 20, 1, "0.0"),
                (3, 20, 1, "0.2"), (5, 20, 1, "0.2"), (12345, 1000, 2, "12.34"), (12355, 1000, 2, "12.36")):
            row = Row()
            row.fraction(top, bottom)
            self.both_sides(row, places, expected)

    def test_with_a_hundred_places(self):
        # Over 2^101 odd numbers are in the middle between two texts of 100 places.
        for top, even_below in ((1, True), (3, False), (GREATEST, False), (GREATEST - 2, True)):
            row = Row()
            row.over(row.whole(top), row.product(2 ** 30, 2 ** 30, 2 ** 30, 2 ** 11))
            below = top * 10 ** 100 // 2 ** 101
            self.assertEqual(below % 2 == 0, even_below)
            digits = str(below + (not even_below)).rjust(101, "0")
            self.both_sides(row, 100, digits[:-100] + "." + digits[-100:])

    def test_made_of_roots(self):
        for top, expected in ((1, "0"), (3, "2"), (5, "2"), (7, "4")):
            row = Row()
            row.root(row.fraction(top * top, 4))
            self.both_sides(row, 0, expected)
            row = Row()
            row.over(row.root_of(top * top * 2), row.root_of(8))
            self.both_sides(row, 0, expected)
            row = Row()
            outer = row.root(row.plus(row.whole(3), row.root_of(8)))
            row.times(row.minus(outer, row.root_of(2)), row.fraction(top, 2))
            self.both_sides(row, 0, expected)
        row = Row()
        row.root(row.fraction(1, 64))
        self.both_sides(row, 2, "0.12")
        row = Row()
        row.root(row.root(row.fraction(81, 4 ** 4)))
        self.both_sides(row, 1, "0.8")

    def test_beside_it_by_a_fraction(self):
        for top, low in ((1, 0), (3, 1), (5, 2), (7, 3)):
            for op, expected in ((PLUS, low + 1), (MINUS, low)):
                row = Row()
                row.step(op, row.fraction(top, 2), row.over(row.whole(1), row.power(GREATEST, 4)))
                self.told(row, 0, str(expected))
                row = Row()
                row.step(op, row.fraction(-top, 2), row.over(row.whole(-1), row.power(GREATEST, 4)))
                self.told(row, 0, str(-expected))

    def test_beside_it_by_small_differences_of_roots(self):
        for side, (x, y) in pell(GREATEST).items():
            for top, low in ((1, 0), (3, 1), (5, 2), (7, 3)):
                row = Row()
                small = row.minus(row.whole(x), row.times(row.whole(y), row.root_of(2)))
                row.plus(row.fraction(top, 2), small)
                self.both_sides(row, 0, str(low + 1 if side > 0 else low))
                row = Row()
                small = row.minus(row.whole(x), row.times(row.whole(y), row.root_of(2)))
                row.minus(row.fraction(top, 2), row.over(small, row.whole(GREATEST)))
                self.both_sides(row, 0, str(low if side > 0 else low + 1))

    def test_beside_it_by_roots_nearly_of_squares(self):
        # The root of (A/4)^2 and nearly nothing, with A odd, at one place: A/4 ends in 25 or 75.
        for v in (GREATEST, GREATEST - 2):
            number = Fraction(v, 4)
            low = int(number * 10)
            self.assertEqual(number * 10 - low, Fraction(1, 2))
            even = low + low % 2
            for step, units in ((1, low + 1), (0, even), (-1, low)):
                row = Row()
                row.over(row.root(row.plus(row.power(v, 2), row.whole(step))), row.whole(4))
                self.both_sides(row, 1, f"{units // 10}.{units % 10}")

    def test_beside_it_by_an_eighth_root(self):
        for step, expected in ((1, "23170"), (0, "23170"), (-1, "23169")):
            row = Row()
            root = row.root(row.root(row.root(row.plus(row.power(46339 ** 2, 4), row.whole(step)))))
            row.over(root, row.whole(2))
            self.both_sides(row, 0, expected)
        for step, expected in ((1, "23169"), (0, "23168"), (-1, "23168")):
            row = Row()
            root = row.root(row.root(row.root(row.plus(row.power(46337 ** 2, 4), row.whole(step)))))
            row.over(root, row.whole(2))
            self.both_sides(row, 0, expected)


class Nines(Texts):
    def test_carried_into_one_digit_more(self):
        for top, bottom, places, expected in (
                (19, 2, 0, "10"), (96, 100, 1, "1.0"), (9999, 1000, 2, "10.00"), (999999999, 1000000000, 8, "1.00000000"),
                (1999999999, 2, 0, "1000000000"), (99995, 10, 0, "10000"), (995, 100, 1, "10.0"), (2, 3, 0, "1")):
            row = Row()
            row.fraction(top, bottom)
            self.both_sides(row, places, expected)

    def test_roots(self):
        row = Row()
        row.root(row.minus(row.whole(100), row.fraction(1, GREATEST)))
        self.both_sides(row, 8, "10.00000000")
        row = Row()
        row.root(row.root(row.root(row.minus(row.whole(1), row.over(row.whole(1), row.power(GREATEST, 5))))))
        self.told(row, 40, "1." + "0" * 40)
        self.told(row, 48, "0." + "9" * 47 + "7")
        self.told(row, 0, "1")

    def test_not_carried_where_it_is_less_than_half(self):
        row = Row()
        row.fraction(94, 100)
        self.both_sides(row, 1, "0.9")
        row = Row()
        row.fraction(9994, 1000)
        self.both_sides(row, 2, "9.99")


class BelowZeroAndNearlyNothing(Texts):
    def test_no_sign_where_all_digits_are_zero(self):
        for top, bottom, places, expected in (
                (-1, 3, 0, "0"), (-1, 2, 0, "0"), (-1, 1000, 2, "0.00"), (-1, 200, 2, "0.00"), (-4, 1000, 2, "0.00"),
                (-1, GREATEST, 9, "0.000000000"), (-1, 20, 1, "0.0")):
            row = Row()
            row.fraction(top, bottom)
            self.told(row, places, expected)

    def test_a_sign_where_the_last_digit_is_not(self):
        for top, bottom, places, expected in (
                (-2, 3, 0, "-1"), (-51, 100, 0, "-1"), (-3, 200, 2, "-0.02"), (-6, 1000, 2, "-0.01"),
                (-1, GREATEST, 10, "-0.0000000005"), (-1, 10, 1, "-0.1"), (-501, 100000, 2, "-0.01")):
            row = Row()
            row.fraction(top, bottom)
            self.told(row, places, expected)

    def test_small_differences_of_roots(self):
        x, y = pell(GREATEST)[-1]
        row = Row()
        row.minus(row.whole(x), row.times(row.whole(y), row.root_of(2)))
        self.told(row, 0, "0")
        self.told(row, 9, "0.000000000")
        self.by_decimals(row)
        self.assertEqual(text(100, row.p)[2], ord("-"))
        row = Row()
        near = row.minus(row.whole(1), row.over(row.whole(1), row.power(GREATEST, 4)))
        row.minus(row.root(row.root(row.root(near))), row.whole(1))
        self.told(row, 30, "0." + "0" * 30)
        self.by_decimals(row)
        self.assertEqual(text(100, row.p)[2], ord("-"))

    def test_smallest(self):
        for sign in (1, -1):
            row = Row()
            row.over(row.whole(sign), row.power(GREATEST, 7))
            self.agree(row, Fraction(sign, GREATEST ** 7))
            self.told(row, 65, "0." + "0" * 65)


class Large(Texts):
    def test_products_of_many(self):
        for values in ([GREATEST] * 8, [LEAST] * 8, [LEAST] * 7, [LEAST] + [GREATEST] * 7, [10 ** 9] * 8,
                       [-10 ** 9] + [10 ** 9] * 7):
            number = 1
            for v in values:
                number *= v
            row = Row()
            row.product(*values)
            self.told(row, 0, str(number))
            self.told(row, 100, str(number) + "." + "0" * 100)

    def test_quotients_of_many(self):
        row = Row()
        row.over(row.power(GREATEST, 7), row.whole(-3))
        self.agree(row, Fraction(GREATEST ** 7, -3))

    def test_over_a_small_difference_of_roots(self):
        for x, y in pell(GREATEST).values():
            row = Row()
            small = row.minus(row.whole(x), row.times(row.whole(y), row.root_of(2)))
            row.over(row.power(GREATEST, 4), small)
            self.by_decimals(row)


class BeyondRows(unittest.TestCase):
    """Just beside the middle at a hundred places, where no row of steps here is known to lie."""

    def test_by_a_small_difference_of_roots(self):
        far = 10 ** 60
        for side, (x, y) in pell(GREATEST).items():
            for low in (0, 1, 6, 7, 10 ** 100 - 1):
                # low and a half units, and x - y root 2 over far of them.
                near = Number([(2 * low + 1) * far + 2 * x, -2 * y], 2 * far * 10 ** 100)
                digits = str(low + (side > 0)).rjust(101, "0")
                self.assertEqual(digits_of(100, near, {1: [2]}), digits[:-100] + "." + digits[-100:])
                opposite = Number([-part for part in near.parts], near.under)
                expected = ("-" if int(digits) else "") + digits[:-100] + "." + digits[-100:]
                self.assertEqual(digits_of(100, opposite, {1: [2]}), expected)


if __name__ == "__main__":
    unittest.main()
