"""A1, A3: the floor, at ordinary numbers, at whole ones made of roots, just beside them, and far out."""
import unittest
from fractions import Fraction
from math import floor as floor_of_fraction
from math import isqrt

from ruledroots.rows import floor
from tests.helper import GREATEST, LEAST, MINUS, OVER, PLUS, TIMES, WHOLE, Row, flat, number_of, pell

SOME = (LEAST, -1000000007, -65537, -3, -2, -1, 0, 1, 2, 3, 7, 65536, 1000000007, GREATEST)


class Floors(unittest.TestCase):
    def told(self, row, number):
        self.assertEqual(floor(row.p), [0, 1, number])


class Ordinary(Floors):
    def test_whole_numbers(self):
        for v in SOME:
            self.assertEqual(floor([WHOLE, 0, 0, v]), [0, 1, v])

    def test_it_is_the_last_step_s(self):
        self.assertEqual(floor(flat((WHOLE, 0, 0, 5), (WHOLE, 0, 0, -7))), [0, 1, -7])

    def test_sums_differences_products(self):
        for v in SOME:
            for w in SOME:
                for op, number in ((PLUS, v + w), (MINUS, v - w), (TIMES, v * w)):
                    self.assertEqual(floor(flat((WHOLE, 0, 0, v), (WHOLE, 0, 0, w), (op, 0, 1, 0))), [0, 1, number])

    def test_fractions(self):
        for v in SOME:
            for w in SOME:
                if w != 0:
                    p = flat((WHOLE, 0, 0, v), (WHOLE, 0, 0, w), (OVER, 0, 1, 0))
                    self.assertEqual(floor(p), [0, 1, floor_of_fraction(Fraction(v, w))], (v, w))

    def test_fractions_between_whole_numbers(self):
        for top, bottom, number in ((1, 2, 0), (-1, 2, -1), (7, 2, 3), (-7, 2, -4), (1, GREATEST, 0),
                                    (-1, GREATEST, -1), (6, 3, 2), (-6, 3, -2), (5, -2, -3)):
            row = Row()
            row.fraction(top, bottom)
            self.told(row, number)

    def test_roots(self):
        for v in (0, 1, 2, 3, 4, 5, 8, 9, 10, 46340 ** 2 - 1, 46340 ** 2, 46340 ** 2 + 1, GREATEST):
            row = Row()
            row.root_of(v)
            self.told(row, isqrt(v))

    def test_roots_below_zero(self):
        for v in (0, 1, 2, 3, 4, 5, 8, 9, 10, 46340 ** 2 - 1, 46340 ** 2, 46340 ** 2 + 1, GREATEST):
            row = Row()
            row.negative(row.root_of(v))
            self.told(row, -isqrt(v) if isqrt(v) ** 2 == v else -isqrt(v) - 1)

    def test_roots_of_fractions(self):
        for top, bottom in ((1, 2), (9, 4), (10, 3), (GREATEST, 2), (GREATEST, GREATEST - 1), (1, GREATEST)):
            row = Row()
            row.root(row.fraction(top, bottom))
            self.told(row, isqrt(top // bottom))

    def test_roots_within_roots(self):
        row = Row()
        inner = row.plus(row.whole(100), row.root_of(2))
        middle = row.plus(row.whole(80), row.root(inner))
        # The root of 100 and root 2 is 10.07; that of 90.07 is 9.49.
        row.root(middle)
        self.told(row, 9)
        row.negative(row.step(0, v=9))
        self.told(row, -9)


class WholeThoughMadeOfRoots(Floors):
    def each(self):
        """Rows with their whole numbers."""
        row = Row()
        row.root_of(4)
        yield row, 2
        row = Row()
        row.times(row.root_of(2), row.root_of(8))
        yield row, 4
        row = Row()
        row.over(row.root_of(18), row.root_of(2))
        yield row, 3
        row = Row()
        row.minus(row.root(row.plus(row.whole(3), row.root_of(8))), row.root_of(2))
        yield row, 1
        row = Row()
        golden = row.over(row.plus(row.whole(1), row.root_of(5)), row.whole(2))
        row.minus(golden, row.over(row.whole(1), golden))
        yield row, 1
        row = Row()
        row.root(row.root(row.root(row.power(GREATEST - 1, 8))))
        yield row, GREATEST - 1
        row = Row()
        root = row.root(row.power(GREATEST, 2))
        row.plus(root, root)
        yield row, 2 * GREATEST
        row = Row()
        row.minus(row.plus(row.root_of(2), row.root_of(8)), row.root_of(18))
        yield row, 0
        row = Row()
        root = row.root_of(7)
        row.minus(root, root)
        yield row, 0
        row = Row()
        first = row.root(row.plus(row.whole(5), row.root_of(21)))
        total = row.plus(first, row.over(row.whole(2), first))
        row.minus(total, row.root_of(14))
        yield row, 0
        row = Row()
        first = row.root(row.plus(row.whole(3), row.root_of(5)))
        total = row.plus(first, row.over(row.whole(2), first))
        row.over(total, row.root_of(10))
        yield row, 1

    def light_enough(self, row):
        """The heaviest of the rows can't bear a step more."""
        return floor(row.p) != [-1, 1, len(row.p) // 4 - 1]

    def test_they_are_their_floors(self):
        for row, number in self.each():
            self.told(row, number)

    def test_below_zero(self):
        for row, number in self.each():
            row.negative(len(row.p) // 4 - 1)
            if self.light_enough(row):
                self.told(row, -number)

    def test_a_little_off(self):
        for off, below in ((1, 0), (-1, 1)):
            for row, number in self.each():
                row.plus(len(row.p) // 4 - 1, row.fraction(off, GREATEST))
                if self.light_enough(row):
                    self.told(row, number - below)


class JustBeside(Floors):
    """Numbers that differ from a whole one only far behind the point."""

    def test_roots_of_squares_and_one(self):
        for step, number in ((-1, GREATEST - 1), (0, GREATEST), (1, GREATEST)):
            row = Row()
            row.root(row.plus(row.power(GREATEST, 2), row.whole(step)))
            self.told(row, number)
            row.negative(len(row.p) // 4 - 1)
            self.told(row, -GREATEST - (1 if step > 0 else 0))

    def test_fourth_roots(self):
        for v in (2, 1000, GREATEST):
            for step, number in ((-1, v - 1), (0, v), (1, v)):
                row = Row()
                row.root(row.root(row.plus(row.power(v, 4), row.whole(step))))
                self.told(row, number)

    def test_eighth_roots(self):
        for v in (2, 1000, 46340):
            for step, number in ((-1, v - 1), (0, v), (1, v)):
                row = Row()
                row.root(row.root(row.root(row.plus(row.power(v * v, 4), row.whole(step)))))
                self.told(row, number)

    def test_one_and_nearly_nothing(self):
        # 1 and 1 over the fifth power of GREATEST: some 155 bits behind the point; so are its roots.
        for v in (5, 1, 0, -1, -5):
            for op, below in ((PLUS, 0), (MINUS, 1)):
                row = Row()
                row.step(op, row.whole(v), row.over(row.whole(1), row.power(GREATEST, 5)))
                self.told(row, v - below)
                if v >= 1:
                    row.root(len(row.p) // 4 - 1)
                    self.told(row, isqrt(v - below))
                if v == 1:
                    row.root(len(row.p) // 4 - 1)
                    row.root(len(row.p) // 4 - 1)
                    self.told(row, v - below)

    def test_a_small_difference_s_square(self):
        # x - y root 2 is as near to 0 as 1 over 2 x; its square as the square of that.
        for x, y in pell(GREATEST).values():
            for v in (1, 0, -1, GREATEST, LEAST):
                for op, below in ((PLUS, 0), (MINUS, 1)):
                    row = Row()
                    small = row.minus(row.whole(x), row.times(row.whole(y), row.root_of(2)))
                    row.step(op, row.whole(v), row.times(small, small))
                    self.told(row, v - below)

    def test_by_the_sign_of_a_small_difference(self):
        for side, (x, y) in pell(GREATEST).items():
            for v in (0, 3, -3):
                row = Row()
                small = row.minus(row.whole(x), row.times(row.whole(y), row.root_of(2)))
                row.plus(row.whole(v), small)
                self.told(row, v if side > 0 else v - 1)

    def test_three_roots(self):
        for x, y in ((2, 3), (500000001, 500000003), (123456789, 400000007)):
            inner = isqrt(4 * x * y)
            for z, number in ((x + y + inner, 0), (x + y + inner + 1, -1)):
                row = Row()
                row.minus(row.plus(row.root_of(x), row.root_of(y)), row.root_of(z))
                self.told(row, number)

    def test_root_within_a_root_nearly_undone(self):
        for off, number in ((-1, 0), (0, 1), (1, 1)):
            row = Row()
            two = row.root_of(2)
            inner = row.plus(row.whole(3), row.plus(two, two))
            row.minus(row.root(row.plus(inner, row.fraction(off, GREATEST))), two)
            self.told(row, number)


class FarOut(Floors):
    def test_products_of_many(self):
        for v in (GREATEST, GREATEST - 1, LEAST, -GREATEST):
            for n in (2, 3, 7, 8):
                row = Row()
                row.power(v, n)
                self.told(row, v ** n)

    def test_far_below_zero(self):
        for values in ([LEAST] + [GREATEST] * 7, [LEAST] * 7 + [GREATEST], [LEAST] * 7, [-1] + [GREATEST] * 6):
            row = Row()
            row.product(*values)
            number = 1
            for v in values:
                number *= v
            self.assertLess(number, -2 ** 180)
            self.told(row, number)

    def test_quotients_of_many(self):
        for bottom in (2, 3, -7, GREATEST - 1, LEAST):
            row = Row()
            row.over(row.power(GREATEST, 7), row.whole(bottom))
            self.told(row, GREATEST ** 7 // bottom)

    def test_roots_of_many(self):
        for n in (6, 7, 8):
            row = Row()
            row.root(row.power(GREATEST, n))
            self.told(row, isqrt(GREATEST ** n))
            row.root(len(row.p) // 4 - 1)
            row.root(len(row.p) // 4 - 1)
            self.told(row, isqrt(isqrt(isqrt(GREATEST ** n))))

    def test_many_and_a_root(self):
        row = Row()
        row.times(row.power(GREATEST, 7), row.root_of(GREATEST))
        self.told(row, isqrt(GREATEST ** 15))
        row = Row()
        row.times(row.product(LEAST, *[GREATEST] * 6), row.root_of(2))
        self.told(row, -isqrt(2 * LEAST ** 2 * GREATEST ** 12) - 1)

    def test_over_a_small_difference(self):
        # 1 over x - y root 2 is x + y root 2, or its opposite.
        for side, (x, y) in pell(GREATEST).items():
            row = Row()
            small = row.minus(row.whole(x), row.times(row.whole(y), row.root_of(2)))
            row.over(row.whole(1), small)
            number = x + isqrt(2 * y * y)
            self.told(row, number if side > 0 else -number - 1)
            row = Row()
            small = row.minus(row.whole(x), row.times(row.whole(y), row.root_of(2)))
            row.over(row.whole(1), row.times(small, small))
            self.told(row, x * x + 2 * y * y + isqrt(8 * x * x * y * y))
            row = Row()
            small = row.minus(row.whole(x), row.times(row.whole(y), row.root_of(2)))
            row.over(row.power(GREATEST, 4), small)
            number = GREATEST ** 4 * x + isqrt(2 * (GREATEST ** 4 * y) ** 2)
            self.told(row, number if side > 0 else -number - 1)

    def test_over_the_smallest_differences(self):
        # The eighth root of v^8 + 1 or v^8 - 1, less v, is about 2^-111: by decimals.
        for step in (1, -1):
            row = Row()
            root = row.root(row.root(row.root(row.plus(row.power(46340 ** 2, 4), row.whole(step)))))
            small = row.minus(root, row.whole(46340))
            self.assertLess(abs(number_of(row.p)), Fraction(1, 2 ** 110))
            self.told(row, 0 if step > 0 else -1)
            row.over(row.whole(1), small)
            self.told(row, floor_of_fraction(number_of(row.p)))
            self.assertGreater(abs(floor(row.p)[2]), 2 ** 110)


if __name__ == "__main__":
    unittest.main()
