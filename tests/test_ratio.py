"""A4: a fraction told is the number, and if there's one (below 2^31) it's told."""
import unittest
from fractions import Fraction

from ruledroots.rows import ratio
from tests.helper import (
    GREATEST, LEAST, MINUS, OVER, PLUS, TIMES, WHOLE, Row, flat, number_of, pell, ratio_answer)

SOME = (LEAST, LEAST + 1, -1000000007, -65537, -3, -2, -1, 0, 1, 2, 3, 7, 65536, 1000000007, GREATEST - 1, GREATEST)

NONE = [0]


def last(row):
    return len(row.p) // 4 - 1


class Ratios(unittest.TestCase):
    def told(self, row, n, d):
        self.assertEqual(ratio(row.p), [1, 2, n, d], row.p)

    def none(self, row):
        self.assertEqual(ratio(row.p), NONE, row.p)

    def both_sides(self, row, n, d):
        self.told(row, n, d)
        row.negative(last(row))
        self.told(row, -n, d)


class WithoutRoots(Ratios):
    def test_whole_numbers(self):
        for v in SOME:
            if v != LEAST:
                self.assertEqual(ratio([WHOLE, 0, 0, v]), [1, 2, v, 1])

    def test_zero(self):
        self.assertEqual(ratio([WHOLE, 0, 0, 0]), [1, 2, 0, 1])
        for bottom in (5, -5, GREATEST, LEAST):
            row = Row()
            row.fraction(0, bottom)
            self.told(row, 0, 1)

    def test_lowest_terms(self):
        for top, bottom, n, d in ((1, 2, 1, 2), (2, 4, 1, 2), (-2, 4, -1, 2), (2, -4, -1, 2), (-2, -4, 1, 2),
                                  (6, 3, 2, 1), (-6, 3, -2, 1), (7, 7, 1, 1), (1000000, 15, 200000, 3),
                                  (GREATEST, GREATEST, 1, 1), (LEAST, LEAST, 1, 1), (LEAST, 2, -1073741824, 1)):
            row = Row()
            row.fraction(top, bottom)
            self.told(row, n, d)

    def test_each_op_of_two(self):
        for v in SOME:
            for w in SOME:
                for op, number in ((PLUS, v + w), (MINUS, v - w), (TIMES, v * w)):
                    p = flat((WHOLE, 0, 0, v), (WHOLE, 0, 0, w), (op, 0, 1, 0))
                    self.assertEqual(ratio(p), ratio_answer(Fraction(number)))
                if w != 0:
                    p = flat((WHOLE, 0, 0, v), (WHOLE, 0, 0, w), (OVER, 0, 1, 0))
                    self.assertEqual(ratio(p), ratio_answer(Fraction(v, w)))

    def test_sums_of_fractions(self):
        row = Row()
        row.plus(row.fraction(1, 2), row.fraction(1, 3))
        self.both_sides(row, 5, 6)
        row = Row()
        row.minus(row.fraction(1, 6), row.fraction(2, 3))
        self.both_sides(row, -1, 2)

    def test_fractions_of_the_most_terms(self):
        # Neighbours of Fibonacci: of all fractions of their size they have the most terms.
        x, y = 1, 1
        while y <= GREATEST:
            for n, d in ((x, y), (y, x)):
                row = Row()
                row.fraction(n, d)
                self.both_sides(row, n, d)
            x, y = y, x + y
        self.assertEqual((x, y), (1836311903, 2971215073))
        row = Row()
        row.over(row.whole(x), row.plus(row.whole(x), row.whole(y - x)))
        self.none(row)

    def test_it_is_the_last_step_s(self):
        self.assertEqual(ratio(flat((WHOLE, 0, 0, 5), (WHOLE, 0, 0, -7))), [1, 2, -7, 1])


class MadeOfRoots(Ratios):
    def test_roots_of_squares(self):
        for v in (0, 1, 2, 3, 12, 46340):
            row = Row()
            row.root_of(v * v)
            self.both_sides(row, v, 1)
        for top, bottom in ((2, 3), (46340, 46339), (1, 46340), (7, 12)):
            row = Row()
            row.root(row.fraction(top * top, bottom * bottom))
            self.both_sides(row, top, bottom)
        row = Row()
        row.root(row.power(GREATEST, 2))
        self.both_sides(row, GREATEST, 1)
        row = Row()
        row.root(row.over(row.power(GREATEST - 1, 2), row.power(GREATEST, 2)))
        self.both_sides(row, GREATEST - 1, GREATEST)

    def test_roots_of_roots_of_powers(self):
        row = Row()
        row.root(row.root(row.root(row.power(GREATEST, 8))))
        self.told(row, GREATEST, 1)
        row = Row()
        row.root(row.root(row.over(row.power(-3, 4), row.whole(10000))))
        self.both_sides(row, 3, 10)

    def test_a_root_taken_away_from_itself(self):
        row = Row()
        root = row.root_of(7)
        row.minus(root, root)
        self.both_sides(row, 0, 1)
        row = Row()
        root = row.root_of(7)
        row.minus(row.plus(row.fraction(2, 3), root), root)
        self.both_sides(row, 2, 3)

    def test_products_and_quotients_of_roots(self):
        row = Row()
        row.times(row.root_of(2), row.root_of(8))
        self.both_sides(row, 4, 1)
        row = Row()
        row.over(row.root_of(18), row.root_of(32))
        self.both_sides(row, 3, 4)
        row = Row()
        root = row.root_of(5)
        row.over(row.times(root, root), row.whole(10))
        self.both_sides(row, 1, 2)
        row = Row()
        row.times(row.times(row.root_of(6), row.root_of(10)), row.root_of(15))
        self.both_sides(row, 30, 1)

    def test_sums_of_roots(self):
        row = Row()
        row.over(row.plus(row.root_of(2), row.root_of(8)), row.root_of(18))
        self.both_sides(row, 1, 1)
        row = Row()
        row.minus(row.root(row.plus(row.whole(3), row.root_of(8))), row.root_of(2))
        self.both_sides(row, 1, 1)
        row = Row()
        first = row.root(row.plus(row.whole(3), row.root_of(5)))
        row.over(row.plus(first, row.over(row.whole(2), first)), row.root_of(40))
        self.both_sides(row, 1, 2)

    def test_product_with_the_opposite_root(self):
        row = Row()
        root = row.root_of(2)
        above = row.plus(row.whole(3), root)
        row.times(above, row.minus(row.whole(3), root))
        self.both_sides(row, 7, 1)

    def test_golden_section(self):
        row = Row()
        golden = row.over(row.plus(row.whole(1), row.root_of(5)), row.whole(2))
        row.minus(golden, row.over(row.whole(1), golden))
        self.told(row, 1, 1)

    def test_many_terms(self):
        row = Row()
        one = row.over(row.root_of(18), row.times(row.whole(3), row.root_of(2)))
        row.times(one, row.fraction(1134903170, 1836311903))
        self.both_sides(row, 1134903170, 1836311903)


class NoFraction(Ratios):
    def test_roots(self):
        for v in (2, 3, 5, 8, 46340 ** 2 - 1, 46340 ** 2 + 1, GREATEST):
            row = Row()
            row.root_of(v)
            self.none(row)
            row.negative(last(row))
            self.none(row)

    def test_sums_and_roots_within_roots(self):
        row = Row()
        row.plus(row.plus(row.root_of(2), row.root_of(3)), row.root_of(5))
        self.none(row)
        row = Row()
        row.root(row.plus(row.whole(3), row.root(row.plus(row.whole(5), row.root_of(7)))))
        self.none(row)
        row = Row()
        row.root(row.plus(row.whole(3), row.root_of(8)))
        self.none(row)

    def test_golden_section(self):
        # Its terms are ones, so what they fold up to grows as slowly as can be.
        row = Row()
        golden = row.over(row.plus(row.whole(1), row.root_of(5)), row.whole(2))
        self.none(row)
        row.over(row.whole(1), golden)
        self.none(row)
        row.negative(last(row))
        self.none(row)

    def test_roots_of_nearly_squares(self):
        row = Row()
        row.root(row.plus(row.power(GREATEST, 2), row.whole(1)))
        self.none(row)
        row = Row()
        row.root(row.minus(row.power(GREATEST, 2), row.whole(1)))
        self.none(row)
        for step in (1, -1):
            row = Row()
            row.root(row.root(row.root(row.plus(row.power(46340 ** 2, 4), row.whole(step)))))
            self.none(row)
            row.over(last(row), row.whole(7))
            self.none(row)

    def test_near_a_fraction_by_a_small_difference_of_roots(self):
        for x, y in pell(GREATEST).values():
            for top, bottom in ((0, 1), (1, 1), (3, 2), (-22, 7), (GREATEST, GREATEST - 1)):
                for op in (PLUS, MINUS):
                    row = Row()
                    small = row.minus(row.whole(x), row.times(row.whole(y), row.root_of(2)))
                    row.step(op, row.fraction(top, bottom), row.over(small, row.whole(GREATEST)))
                    self.none(row)

    def test_near_a_fraction_by_another(self):
        for top, bottom in ((0, 1), (1, 1), (3, 2), (-22, 7), (GREATEST, GREATEST - 1)):
            for op in (PLUS, MINUS):
                row = Row()
                row.step(op, row.fraction(top, bottom), row.over(row.whole(1), row.power(GREATEST, 4)))
                self.none(row)

    def test_near_one_by_roots(self):
        for op in (PLUS, MINUS):
            row = Row()
            near = row.step(op, row.whole(1), row.over(row.whole(1), row.power(GREATEST, 5)))
            row.root(row.root(row.root(near)))
            self.none(row)


class Bounds(Ratios):
    def test_just_within(self):
        self.assertEqual(ratio([WHOLE, 0, 0, GREATEST]), [1, 2, GREATEST, 1])
        self.assertEqual(ratio([WHOLE, 0, 0, -GREATEST]), [1, 2, -GREATEST, 1])
        for top, bottom in ((1, GREATEST), (GREATEST, GREATEST - 1), (GREATEST - 1, GREATEST), (GREATEST, 2),
                            (2, GREATEST)):
            row = Row()
            row.fraction(top, bottom)
            self.both_sides(row, top, bottom)

    def test_just_outside(self):
        self.assertEqual(ratio([WHOLE, 0, 0, LEAST]), NONE)
        for top, bottom in ((LEAST, 1), (LEAST, 3), (LEAST, GREATEST), (1, LEAST), (3, LEAST), (GREATEST, LEAST),
                            (-GREATEST, LEAST)):
            row = Row()
            row.fraction(top, bottom)
            self.none(row)
            row.negative(last(row))
            self.none(row)
        row = Row()
        row.plus(row.whole(GREATEST), row.whole(1))
        self.none(row)

    def test_only_one_of_both(self):
        for more, bottom in ((1, 3), (2, 2), (2, GREATEST), (1, 1), (GREATEST, 3), (GREATEST - 1, 7)):
            row = Row()
            above = row.plus(row.whole(GREATEST), row.whole(more))
            row.over(above, row.whole(bottom))
            self.none(row)
            row.negative(last(row))
            self.none(row)
            row = Row()
            above = row.plus(row.whole(GREATEST), row.whole(more))
            row.over(row.whole(bottom), above)
            self.none(row)
            row.negative(last(row))
            self.none(row)

    def test_above_before_lowest_terms(self):
        row = Row()
        row.over(row.product(GREATEST, 3), row.whole(3))
        self.both_sides(row, GREATEST, 1)
        row = Row()
        row.over(row.product(GREATEST, GREATEST), row.product(GREATEST, GREATEST - 1))
        self.both_sides(row, GREATEST, GREATEST - 1)
        row = Row()
        row.over(row.power(GREATEST, 3), row.power(GREATEST, 4))
        self.told(row, 1, GREATEST)
        row = Row()
        row.over(row.whole(LEAST), row.whole(LEAST + 2))
        self.both_sides(row, 2 ** 30, 2 ** 30 - 1)
        row = Row()
        row.over(row.power(LEAST, 4), row.power(LEAST, 4))
        self.told(row, 1, 1)

    def test_of_roots(self):
        for more, answers in ((0, ([1, 2, GREATEST, 1], [1, 2, 1, GREATEST])), (1, (NONE, NONE))):
            row = Row()
            number = row.plus(row.whole(GREATEST), row.whole(more))
            root = row.root(row.times(number, number))
            self.assertEqual(ratio(row.p), answers[0])
            row.over(row.whole(1), root)
            self.assertEqual(ratio(row.p), answers[1])

    def test_far_out(self):
        for values in ([GREATEST] * 8, [LEAST] * 7, [LEAST] + [GREATEST] * 7):
            row = Row()
            row.product(*values)
            self.none(row)
        row = Row()
        row.over(row.whole(1), row.power(GREATEST, 7))
        self.none(row)
        self.assertEqual(ratio_answer(number_of(row.p)), NONE)


if __name__ == "__main__":
    unittest.main()
