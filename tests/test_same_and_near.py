"""A1, A2: numbers that are one though made differently, and numbers that differ only far behind the point."""
import unittest
from math import isqrt

from ruledroots.rows import order, sign
from tests.helper import GREATEST, LEAST, Row, pell

LESS, SAME, GREATER = [0], [1], [2]


class Numbers(unittest.TestCase):
    def compare(self, row, i, j, answer):
        """order says it from both sides, and so does the sign of the difference, if its weight allows."""
        back = {0: 2, 1: 1, 2: 0}
        self.assertEqual(order(i, j, row.p), answer)
        self.assertEqual(order(j, i, row.p), [back[answer[0]]])
        difference = sign(row.p + [2, i, j, 0])
        self.assertIn(difference, (answer, [-1, 1, len(row.p) // 4]))


class OneNumber(Numbers):
    def test_roots_of_squares(self):
        for v in (0, 1, 2, 3, 12, 46340):
            row = Row()
            self.compare(row, row.root_of(v * v), row.whole(v), SAME)
        for v in (GREATEST, LEAST, -1, -7):
            row = Row()
            number = row.whole(v)
            root = row.root(row.times(number, number))
            self.compare(row, root, row.whole(abs(v) - 1), GREATER)
            self.compare(row, root, number, SAME if v > 0 else GREATER)
            self.compare(row, row.minus(row.whole(0), number), root, LESS if v > 0 else SAME)

    def test_roots_of_squared_fractions(self):
        row = Row()
        root = row.root(row.over(row.whole(4), row.whole(9)))
        self.compare(row, root, row.over(row.whole(2), row.whole(3)), SAME)
        self.compare(row, root, row.over(row.whole(2000001), row.whole(3000000)), LESS)

    def test_eight_is_four_times_two(self):
        row = Row()
        two = row.whole(2)
        twice = row.times(two, row.root(two))
        self.compare(row, row.root_of(8), twice, SAME)
        self.compare(row, row.root_of(9), twice, GREATER)

    def test_half_of_root_two(self):
        row = Row()
        two = row.whole(2)
        root = row.root(two)
        other = row.root(row.over(row.whole(1), two))
        self.compare(row, row.over(root, two), other, SAME)
        self.compare(row, row.over(row.whole(1), root), other, SAME)

    def test_the_same_root_taken_three_times(self):
        row = Row()
        five = row.whole(5)
        roots = [row.root(five), row.root(five), row.root(five)]
        for i in roots:
            for j in roots:
                self.compare(row, i, j, SAME)
        product = row.times(row.times(roots[0], roots[1]), row.times(roots[2], roots[0]))
        self.compare(row, product, row.whole(25), SAME)
        self.compare(row, row.over(roots[0], roots[1]), row.over(roots[2], roots[2]), SAME)

    def test_sum_of_two_roots(self):
        row = Row()
        total = row.plus(row.root_of(2), row.root_of(8))
        self.compare(row, total, row.root_of(18), SAME)

    def test_sum_of_three_roots(self):
        row = Row()
        total = row.plus(row.plus(row.root_of(2), row.root_of(8)), row.root_of(18))
        two = row.whole(2)
        self.compare(row, row.times(total, total), row.whole(72), SAME)
        self.compare(row, row.over(total, row.whole(6)), 1, SAME)
        self.compare(row, row.over(total, row.whole(6)), two, LESS)

    def test_three_roots_that_leave_nothing(self):
        for factor in (1, 2, 7, 46340 ** 2 // 9 - 1):
            row = Row()
            row.minus(row.plus(row.root_of(factor), row.root_of(4 * factor)), row.root_of(9 * factor))
            self.assertEqual(sign(row.p), SAME)

    def test_root_within_a_root(self):
        row = Row()
        two = row.whole(2)
        root = row.root(two)
        outer = row.root(row.plus(row.whole(3), row.times(two, root)))
        self.compare(row, outer, row.plus(row.whole(1), root), SAME)
        row.minus(outer, row.plus(root, row.whole(1)))
        self.assertEqual(sign(row.p), SAME)

    def test_root_within_a_root_that_is_a_difference(self):
        row = Row()
        two = row.whole(2)
        root = row.root(two)
        one = row.whole(1)
        outer = row.root(row.minus(row.whole(3), row.times(two, root)))
        # The root is not below 0: it's the square root of 2 less 1, not 1 less it.
        self.compare(row, outer, row.minus(root, one), SAME)
        self.compare(row, outer, row.minus(one, root), GREATER)

    def test_two_roots_in_one(self):
        row = Row()
        first = row.root_of(2)
        second = row.root_of(3)
        product = row.times(first, second)
        outer = row.root(row.plus(row.whole(5), row.plus(product, product)))
        self.compare(row, outer, row.plus(first, second), SAME)
        row.minus(row.minus(outer, first), second)
        self.assertEqual(sign(row.p), SAME)

    def test_three_deep(self):
        row = Row()
        two = row.whole(2)
        first = row.root(two)
        second = row.root(row.plus(row.whole(3), row.plus(first, first)))
        # second is 1 and first, so its square, 3 and twice first, is twice second and 1.
        inner = row.plus(row.plus(second, second), row.whole(1))
        third = row.root(inner)
        self.compare(row, third, second, SAME)
        self.compare(row, third, row.plus(first, row.whole(1)), SAME)
        self.compare(row, third, row.over(row.whole(12071), row.whole(5000)), GREATER)

    def test_root_of_a_root_of_a_root(self):
        row = Row()
        power = row.whole(3)
        for _ in range(3):
            power = row.times(power, power)
        root = row.root(row.root(row.root(power)))
        self.compare(row, root, 0, SAME)

    def test_eighth_powers_of_eighth_roots(self):
        row = Row()
        two = row.whole(2)
        power = row.root(row.root(row.root(two)))
        for _ in range(3):
            power = row.times(power, power)
        self.compare(row, power, two, SAME)

    def test_golden_section(self):
        row = Row()
        one = row.whole(1)
        golden = row.over(row.plus(one, row.root_of(5)), row.whole(2))
        self.compare(row, row.times(golden, golden), row.plus(golden, one), SAME)
        self.compare(row, row.over(one, golden), row.minus(golden, one), SAME)
        self.compare(row, row.root(row.plus(golden, one)), golden, SAME)

    def test_sum_of_roots_with_opposite_roots_inside(self):
        # With a a - b = c c: the roots of a + root b and of a - root b (that's c through the first) are
        # together the root of 2 a + 2 c.
        for a, b, c in ((5, 21, 2), (3, 5, 2), (7, 13, 6), (5, 16, 3), (40000, 1599999999, 1)):
            row = Row()
            first = row.root(row.plus(row.whole(a), row.root_of(b)))
            total = row.plus(first, row.over(row.whole(c), first))
            self.compare(row, total, row.root_of(2 * a + 2 * c), SAME)

    def test_a_root_used_twice(self):
        row = Row()
        root = row.root_of(7)
        self.compare(row, row.times(root, root), row.whole(7), SAME)
        self.compare(row, row.minus(root, root), row.whole(0), SAME)
        self.compare(row, row.over(root, root), row.whole(1), SAME)
        self.compare(row, row.plus(root, root), row.root_of(28), SAME)


class RootOfZero(Numbers):
    def test_root_of_zero_is_zero(self):
        row = Row()
        zero = row.whole(0)
        root = row.root(zero)
        self.compare(row, root, zero, SAME)
        self.assertEqual(sign(row.p), SAME)

    def test_worked_on(self):
        row = Row()
        root = row.root_of(0)
        one = row.whole(1)
        self.compare(row, row.plus(one, root), one, SAME)
        self.compare(row, row.times(one, root), root, SAME)
        self.compare(row, row.minus(root, one), root, LESS)
        again = row.root(root)
        self.compare(row, again, root, SAME)
        row.over(one, again)
        self.assertEqual(sign(row.p), [-2, 1, len(row.p) // 4 - 1])

    def test_beside_other_roots(self):
        row = Row()
        two = row.root_of(2)
        zero = row.root(row.minus(two, two))
        three = row.root_of(3)
        self.compare(row, row.plus(zero, three), three, SAME)
        self.compare(row, row.plus(two, row.times(zero, three)), two, SAME)
        self.compare(row, row.plus(two, zero), three, LESS)

    def test_root_of_a_zero_made_of_roots(self):
        row = Row()
        first = row.root_of(2)
        second = row.root_of(8)
        zero = row.minus(row.plus(first, first), second)
        root = row.root(zero)
        self.assertEqual(sign(row.p), SAME)
        self.compare(row, root, zero, SAME)
        self.compare(row, row.plus(root, first), first, SAME)


class DivisionByZeroMadeOfRoots(Numbers):
    def refused(self, row, zero):
        row.over(row.whole(1), zero)
        self.assertEqual(sign(row.p), [-2, 1, len(row.p) // 4 - 1])
        self.assertEqual(order(0, 0, row.p), [-2, 1, len(row.p) // 4 - 1])

    def test_roots_of_squares(self):
        row = Row()
        self.refused(row, row.minus(row.whole(2), row.root_of(4)))

    def test_the_same_root_twice(self):
        row = Row()
        two = row.whole(2)
        self.refused(row, row.minus(row.root(two), row.root(two)))

    def test_three_roots(self):
        row = Row()
        self.refused(row, row.minus(row.plus(row.root_of(2), row.root_of(8)), row.root_of(18)))

    def test_root_within_a_root(self):
        row = Row()
        two = row.whole(2)
        root = row.root(two)
        outer = row.root(row.plus(row.whole(3), row.times(two, root)))
        self.refused(row, row.minus(row.minus(outer, root), row.whole(1)))

    def test_product_with_a_zero(self):
        row = Row()
        zero = row.minus(row.whole(3), row.root_of(9))
        self.refused(row, row.times(zero, row.root_of(2)))


class DivisionBySums(Numbers):
    """Divisions where the sum isn't 0 but the same with the root's other sign is."""

    def test_root_of_a_square(self):
        row = Row()
        whole = row.plus(row.whole(2), row.root_of(4))
        part = row.over(row.whole(1), whole)
        self.compare(row, part, row.over(row.whole(1), row.whole(4)), SAME)
        self.compare(row, row.times(part, whole), row.whole(1), SAME)

    def test_below_zero(self):
        row = Row()
        whole = row.minus(row.whole(-3), row.root_of(9))
        part = row.over(row.whole(1), whole)
        self.compare(row, part, row.over(row.whole(-1), row.whole(6)), SAME)

    def test_root_within_a_root(self):
        row = Row()
        two = row.whole(2)
        root = row.root(two)
        one = row.whole(1)
        outer = row.root(row.plus(row.whole(3), row.times(two, root)))
        part = row.over(one, row.plus(outer, row.plus(one, root)))
        # 1 / (2 + 2 root 2) is (root 2 - 1) / 2.
        self.compare(row, part, row.over(row.minus(root, one), two), SAME)

    def test_root_of_a_root_of_a_square(self):
        # 2 less the outer root is 0 only because the inner root is 2.
        row = Row()
        inner = row.root_of(4)
        outer = row.root(row.plus(inner, inner))
        for whole in (row.plus(row.whole(2), outer), row.plus(inner, outer)):
            part = row.over(row.whole(1), whole)
            self.compare(row, part, row.over(row.whole(1), row.whole(4)), SAME)
            self.compare(row, row.times(part, whole), row.whole(1), SAME)

    def test_the_same_root_twice(self):
        row = Row()
        three = row.whole(3)
        first = row.root(three)
        second = row.root(three)
        part = row.over(row.whole(1), row.plus(first, second))
        self.compare(row, row.times(part, first), row.over(row.whole(1), row.whole(2)), SAME)

    def test_quotients_of_quotients(self):
        row = Row()
        two = row.root_of(2)
        three = row.root_of(3)
        part = row.over(row.plus(two, three), row.minus(three, two))
        self.compare(row, part, row.over(row.whole(989), row.whole(100)), GREATER)
        self.compare(row, part, row.over(row.whole(990), row.whole(100)), LESS)
        again = row.over(row.whole(1), part)
        self.compare(row, row.over(row.whole(1), again), part, SAME)


class NearNumbers(Numbers):
    def test_fractions_beside_root_two(self):
        for side, (x, y) in pell(GREATEST).items():
            row = Row()
            root = row.root_of(2)
            fraction = row.over(row.whole(x), row.whole(y))
            self.compare(row, fraction, root, GREATER if side > 0 else LESS)
            self.compare(row, row.times(fraction, fraction), row.times(root, root), GREATER if side > 0 else LESS)

    def test_roots_beside_whole_numbers(self):
        for step, answer in ((-1, LESS), (0, SAME), (1, GREATER)):
            row = Row()
            large = row.whole(GREATEST)
            root = row.root(row.plus(row.times(large, large), row.whole(step)))
            self.compare(row, root, large, answer)

    def test_fourth_roots_beside_whole_numbers(self):
        for v in (2, 1000, GREATEST):
            for step, answer in ((-1, LESS), (0, SAME), (1, GREATER)):
                row = Row()
                large = row.whole(v)
                square = row.times(large, large)
                power = row.plus(row.times(square, square), row.whole(step))
                self.compare(row, row.root(row.root(power)), large, answer)

    def test_eighth_roots_beside_whole_numbers(self):
        for v in (2, 1000, 46340):
            for step, answer in ((-1, LESS), (0, SAME), (1, GREATER)):
                row = Row()
                square = row.whole(v * v)
                power = row.times(square, square)
                power = row.plus(row.times(power, power), row.whole(step))
                self.compare(row, row.root(row.root(row.root(power))), row.whole(v), answer)

    def test_sums_of_two_roots(self):
        # Near, for large n: twice the root of n against those of n - 1 and n + 1.
        for n in (2, 100, 2147483646):
            row = Row()
            middle = row.root_of(n)
            total = row.plus(row.root_of(n - 1), row.root_of(n + 1))
            self.compare(row, total, row.plus(middle, middle), LESS)

    def test_three_roots_of_nearly_nothing(self):
        # root x + root y against root z, z the whole numbers next to (root x + root y) squared.
        for x, y in ((2, 3), (500000001, 500000003), (123456789, 400000007)):
            inner = isqrt(4 * x * y)
            for z, answer in ((x + y + inner, GREATER), (x + y + inner + 1, LESS)):
                row = Row()
                row.minus(row.plus(row.root_of(x), row.root_of(y)), row.root_of(z))
                self.assertEqual(sign(row.p), answer)

    def test_a_small_number_s_powers(self):
        row = Row()
        large = row.whole(46340)
        small = row.minus(row.root_of(46340 ** 2 + 1), large)
        self.assertEqual(sign(row.p), GREATER)
        cube = row.times(row.times(small, small), small)
        self.assertEqual(sign(row.p), GREATER)
        self.compare(row, cube, small, LESS)
        negative = row.minus(large, row.root_of(46340 ** 2 + 1))
        row.times(row.times(negative, negative), negative)
        self.assertEqual(sign(row.p), LESS)

    def test_root_within_a_root_and_one_beside_it(self):
        # 3 + 2 root 2, with the fraction instead of the root.
        for side, (x, y) in pell(GREATEST).items():
            row = Row()
            two = row.whole(2)
            near = row.times(two, row.over(row.whole(x), row.whole(y)))
            outer = row.root(row.plus(row.whole(3), near))
            self.compare(row, outer, row.plus(row.whole(1), row.root(two)), GREATER if side > 0 else LESS)

    def test_nested_roots_far_behind_the_point(self):
        # root (a + root b) + c / root (a + root b) against root (2 a + 2 c), for b one off a a - c c.
        for off, answer in ((-1, LESS), (0, SAME), (1, GREATER)):
            row = Row()
            first = row.root(row.plus(row.whole(46340), row.root_of(46340 ** 2 - 9 + off)))
            total = row.plus(first, row.over(row.whole(3), first))
            self.compare(row, total, row.root_of(2 * 46340 + 6), answer)


class RootsOfNearlyNothing(Numbers):
    def test_just_below_just_above(self):
        for side, (x, y) in pell(GREATEST).items():
            row = Row()
            difference = row.minus(row.over(row.whole(x), row.whole(y)), row.root_of(2))
            root = row.root(difference)
            if side > 0:
                self.assertEqual(sign(row.p), GREATER)
                self.compare(row, root, difference, GREATER)
            else:
                self.assertEqual(sign(row.p), [-3, 1, root])
                self.assertEqual(order(0, 0, row.p), [-3, 1, root])

    def test_below_zero_by_two_roots(self):
        for z, answer in ((17, GREATER), (18, SAME), (19, None)):
            row = Row()
            two = row.root_of(2)
            difference = row.minus(row.plus(two, row.plus(two, two)), row.root_of(z))
            root = row.root(difference)
            self.assertEqual(sign(row.p), answer or [-3, 1, root])

    def test_nearly_a_root_within_a_root(self):
        # 1 + root 2 less root (3 + 2 root 2 + e): e a little, 0, a little below 0.
        for e, answer in ((1, None), (0, SAME), (-1, GREATER)):
            row = Row()
            two = row.root_of(2)
            little = row.over(row.whole(e), row.whole(GREATEST))
            outer = row.root(row.plus(row.plus(row.whole(3), row.plus(two, two)), little))
            root = row.root(row.minus(row.plus(row.whole(1), two), outer))
            self.assertEqual(sign(row.p), answer or [-3, 1, root])


if __name__ == "__main__":
    unittest.main()
