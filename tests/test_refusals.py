"""A5: what is refused, in which order, and just as told."""
import unittest

from ruledroots.rows import double, floor, order, ratio, sign, terms, text
from tests.helper import GREATEST, LEAST, MINUS, OVER, PLUS, ROOT, TIMES, WHOLE, Row, flat

ONE = (WHOLE, 0, 0, 1)
ZERO = (WHOLE, 0, 0, 0)
MINUS_ONE = (WHOLE, 0, 0, -1)
WRONG = (6, 0, 0, 0)
FAR = 9223372036854775807


class Refusals(unittest.TestCase):
    def refused(self, answer, *steps):
        """All calls refuse alike, for any i, j, mode, places and k, as -4 comes last."""
        p = flat(*steps)
        self.assertEqual(sign(p), answer)
        for i, j in ((0, 0), (0, FAR), (FAR, 0), (40, 40)):
            self.assertEqual(order(i, j, p), answer)
        self.assertEqual(floor(p), answer)
        for mode in (0, 1, 2, 3, 4, FAR):
            self.assertEqual(double(mode, p), answer)
        for places in (0, 1, 100, 101, FAR):
            self.assertEqual(text(places, p), answer)
        for k in (0, 1, 16, 17, FAR):
            self.assertEqual(terms(k, p), answer)
        self.assertEqual(ratio(p), answer)

    def taken(self, *steps):
        p = flat(*steps)
        self.assertGreaterEqual(sign(p)[0], 0)
        self.assertEqual(order(0, 0, p), [1])
        self.assertEqual(floor(p)[:2], [0, 1])
        for mode in range(4):
            self.assertEqual(double(mode, p)[:2], [0, 1])
        for places in (0, 100):
            self.assertGreaterEqual(text(places, p)[0], places + 1)
        for k in (1, 16):
            self.assertGreaterEqual(terms(k, p)[0], 1)
        self.assertIn(len(ratio(p)), (1, 4))


class TooFewTooMany(Refusals):
    def test_no_step(self):
        self.refused([-7])

    def test_one_step_and_thirty_two_are_fine(self):
        self.taken(ONE)
        self.taken(*[ONE] * 32)

    def test_more_than_thirty_two(self):
        for count in range(33, 41):
            self.refused([-7], *[ONE] * count)

    def test_too_many_whatever_else_is_wrong(self):
        self.refused([-7], *[WRONG] * 33)
        self.refused([-7], WRONG, *[ONE] * 32)
        self.refused([-7], ZERO, (OVER, 0, 0, 0), *[ONE] * 31)
        self.refused([-7], MINUS_ONE, (ROOT, 0, 0, 0), *[ONE] * 38)
        self.refused([-7], *[(FAR, FAR, FAR, -FAR)] * 40)


class ToldWrong(Refusals):
    def wrong_in_its_place(self, step):
        """Wrong behind two steps that are fine, whatever follows."""
        self.refused([-1, 1, 2], ONE, ONE, step)
        self.refused([-1, 1, 2], ONE, ONE, step, ONE)
        self.refused([-1, 1, 2], ONE, ONE, step, WRONG)

    def test_op_above_five(self):
        for op in (6, 7, 255, FAR):
            self.wrong_in_its_place((op, 0, 0, 0))
        self.refused([-1, 1, 0], WRONG)

    def test_each_op_up_to_five_is_fine(self):
        for op in (PLUS, MINUS, TIMES, OVER):
            self.taken(ONE, ONE, (op, 1, 0, 0))
        self.taken(ONE, ONE, (ROOT, 1, 0, 0))

    def test_whole_number_with_a_field_it_does_not_use(self):
        for other in (1, 2, FAR):
            self.wrong_in_its_place((WHOLE, other, 0, 5))
            self.wrong_in_its_place((WHOLE, 0, other, 5))
        self.refused([-1, 1, 0], (WHOLE, 1, 0, 5))
        self.refused([-1, 1, 0], (WHOLE, 0, 1, 5))

    def test_v_where_it_is_not_used(self):
        for v in (1, -1, GREATEST, FAR, -FAR):
            for op in (PLUS, MINUS, TIMES, OVER, ROOT):
                self.wrong_in_its_place((op, 0, 0, v))

    def test_root_with_b(self):
        for b in (1, 2, FAR):
            self.wrong_in_its_place((ROOT, 0, b, 0))

    def test_a_or_b_not_below_the_own_number(self):
        for op in (PLUS, MINUS, TIMES, OVER):
            for other in (2, 3, 31, 32, FAR):
                self.wrong_in_its_place((op, other, 0, 0))
                self.wrong_in_its_place((op, 0, other, 0))
                self.refused([-1, 1, 2], ONE, ONE, (op, other, 0, 0), ONE, ONE)
                self.refused([-1, 1, 2], ONE, ONE, (op, 0, other, 0), ONE, ONE)
        for other in (2, 3, FAR):
            self.wrong_in_its_place((ROOT, other, 0, 0))

    def test_first_step_has_none_before_it(self):
        for op in (PLUS, MINUS, TIMES, OVER, ROOT):
            self.refused([-1, 1, 0], (op, 0, 0, 0))

    def test_the_ends_of_v(self):
        self.taken((WHOLE, 0, 0, LEAST))
        self.taken((WHOLE, 0, 0, GREATEST))
        for v in (LEAST - 1, GREATEST + 1, FAR, -FAR):
            self.wrong_in_its_place((WHOLE, 0, 0, v))

    def test_the_fourth_root(self):
        roots = [(ROOT, 0, 0, 0)] * 3
        self.taken(ONE, *roots)
        self.refused([-1, 1, 4], ONE, *roots, (ROOT, 0, 0, 0))
        self.refused([-1, 1, 4], ONE, *roots, (ROOT, 3, 0, 0))
        self.refused([-1, 1, 6], ONE, *roots, ONE, ONE, (ROOT, 5, 0, 0), (ROOT, 5, 0, 0))

    def test_roots_of_zero_count_among_the_roots(self):
        self.refused([-1, 1, 4], ZERO, *[(ROOT, 0, 0, 0)] * 4)

    def test_the_first_of_several(self):
        self.refused([-1, 1, 1], ONE, (PLUS, 1, 0, 0), WRONG, (WHOLE, 1, 0, 0))
        self.refused([-1, 1, 31], *[ONE] * 31, WRONG)

    def test_ahead_of_a_step_that_cannot_be(self):
        self.refused([-1, 1, 2], ZERO, (OVER, 0, 0, 0), WRONG)
        self.refused([-1, 1, 2], MINUS_ONE, (ROOT, 0, 0, 0), (WHOLE, 0, 0, GREATEST + 1))
        self.refused([-1, 1, 3], ZERO, (OVER, 0, 0, 0), ONE, (PLUS, 0, 3, 0))
        # What hangs on a step that can't be is still looked at for its weight and its roots.
        self.refused([-1, 1, 5], ZERO, (OVER, 0, 0, 0), (TIMES, 1, 1, 0), (TIMES, 2, 2, 0), ONE, (TIMES, 3, 4, 0))
        self.refused([-1, 1, 4], MINUS_ONE, *[(ROOT, 0, 0, 0)] * 4)


class Weights(Refusals):
    EIGHT = (ONE, (TIMES, 0, 0, 0), (TIMES, 1, 1, 0), (TIMES, 2, 2, 0))

    def test_256_is_fine_and_above_is_not(self):
        self.taken(*self.EIGHT)
        self.refused([-1, 1, 4], *self.EIGHT, (TIMES, 3, 0, 0))
        self.refused([-1, 1, 4], *self.EIGHT, (OVER, 0, 3, 0))

    def test_sums_and_differences_weigh_one_more(self):
        for op in (PLUS, MINUS):
            self.refused([-1, 1, 3], *self.EIGHT[:3], (op, 2, 2, 0))
            self.taken(*self.EIGHT[:3], (op, 2, 1, 0))
            # 32 and 32 and 1 is 65, four of them are 260.
            self.refused([-1, 1, 3], ONE, (op, 0, 0, 0), (TIMES, 1, 1, 0), (TIMES, 2, 2, 0))
            self.taken(ONE, (op, 0, 0, 0), (TIMES, 1, 1, 0), (TIMES, 2, 1, 0))

    def test_quotients_weigh_both(self):
        self.taken(*self.EIGHT[:3], (OVER, 2, 2, 0))
        self.refused([-1, 1, 4], *self.EIGHT[:3], (OVER, 2, 2, 0), (OVER, 3, 0, 0))

    def test_roots_weigh_what_they_are_taken_of(self):
        self.taken(*self.EIGHT, (ROOT, 3, 0, 0), (ROOT, 4, 0, 0), (ROOT, 5, 0, 0))
        self.refused([-1, 1, 5], *self.EIGHT, (ROOT, 3, 0, 0), (TIMES, 4, 0, 0))
        self.taken(*self.EIGHT[:3], (ROOT, 2, 0, 0), (TIMES, 3, 3, 0))
        self.refused([-1, 1, 4], *self.EIGHT[:3], (ROOT, 2, 0, 0), (PLUS, 3, 3, 0))

    def test_weight_of_sums_up_to_its_edge(self):
        # Sums of ones: 32 n and n - 1, so 7 of them are 230, 8 of them 263.
        row = Row()
        row.whole(1)
        last = 0
        for _ in range(6):
            last = row.plus(last, 0)
        self.assertEqual(sign(row.p), [2])
        row.plus(last, 0)
        self.assertEqual(sign(row.p), [-1, 1, 7])

    def test_weight_does_not_hang_on_the_number(self):
        zeros = (ZERO, (TIMES, 0, 0, 0), (TIMES, 1, 1, 0), (TIMES, 2, 2, 0), (TIMES, 3, 0, 0))
        self.refused([-1, 1, 4], *zeros)


class CannotBe(Refusals):
    def test_division_by_zero(self):
        self.refused([-2, 1, 2], ONE, ZERO, (OVER, 0, 1, 0))
        self.refused([-2, 1, 1], ZERO, (OVER, 0, 0, 0))
        self.refused([-2, 1, 2], ONE, (MINUS, 0, 0, 0), (OVER, 0, 1, 0))
        self.taken(ONE, ZERO, (OVER, 1, 0, 0))

    def test_root_of_a_number_below_zero(self):
        self.refused([-3, 1, 1], MINUS_ONE, (ROOT, 0, 0, 0))
        self.refused([-3, 1, 3], ZERO, ONE, (MINUS, 0, 1, 0), (ROOT, 2, 0, 0))
        self.taken(ZERO, (ROOT, 0, 0, 0))

    def test_where_the_last_step_does_not_hang_on_it(self):
        self.refused([-2, 1, 2], ONE, ZERO, (OVER, 0, 1, 0), ONE, ONE)
        self.refused([-3, 1, 1], MINUS_ONE, (ROOT, 0, 0, 0), ONE, (PLUS, 2, 2, 0))
        self.refused([-2, 1, 1], ZERO, (OVER, 0, 0, 0), *[ONE] * 30)

    def test_the_first_of_several(self):
        self.refused([-2, 1, 2], ZERO, MINUS_ONE, (OVER, 1, 0, 0), (ROOT, 1, 0, 0))
        self.refused([-3, 1, 2], ZERO, MINUS_ONE, (ROOT, 1, 0, 0), (OVER, 1, 0, 0))
        self.refused([-3, 1, 1], MINUS_ONE, (ROOT, 0, 0, 0), (OVER, 1, 1, 0), (ROOT, 2, 0, 0))

    def test_what_hangs_on_it_is_not_asked(self):
        self.refused([-2, 1, 1], ZERO, (OVER, 0, 0, 0), (OVER, 0, 1, 0), (ROOT, 2, 0, 0))


class NotAStep(unittest.TestCase):
    def test_i_or_j_not_below_how_many(self):
        p = flat(ONE, ZERO, (PLUS, 0, 1, 0))
        for far in (3, 4, 31, 32, FAR):
            self.assertEqual(order(far, 0, p), [-4])
            self.assertEqual(order(0, far, p), [-4])
            self.assertEqual(order(far, far, p), [-4])
        self.assertEqual(order(2, 0, p), [1])
        self.assertEqual(order(0, 2, p), [1])
        self.assertEqual(order(2, 2, p), [1])

    def test_at_one_step_and_at_thirty_two(self):
        self.assertEqual(order(0, 0, list(ONE)), [1])
        self.assertEqual(order(1, 0, list(ONE)), [-4])
        self.assertEqual(order(0, 1, list(ONE)), [-4])
        full = flat(*[ONE] * 31, ZERO)
        self.assertEqual(order(31, 30, full), [0])
        self.assertEqual(order(30, 31, full), [2])
        self.assertEqual(order(32, 30, full), [-4])
        self.assertEqual(order(30, 32, full), [-4])


# Rows that nothing else is wrong with: numbers below 0, 0 and above, of one step, of roots, of as many steps as may be.
FINE = ([ONE], [ZERO], [MINUS_ONE], [ONE, ONE, (PLUS, 0, 1, 0), (ROOT, 2, 0, 0)], [ONE] * 32)


class NotAMode(unittest.TestCase):
    def test_above_three(self):
        for steps in FINE:
            for mode in (4, 5, 255, 2 ** 32, FAR):
                self.assertEqual(double(mode, flat(*steps)), [-4])
            for mode in range(4):
                self.assertEqual(double(mode, flat(*steps))[:2], [0, 1])


class TooManyPlaces(unittest.TestCase):
    def test_above_a_hundred(self):
        for steps in FINE:
            for places in (101, 102, 1000, 2 ** 32, FAR):
                self.assertEqual(text(places, flat(*steps)), [-4])
            for places in (0, 1, 99, 100):
                answer = text(places, flat(*steps))
                self.assertEqual(answer[:2], [len(answer) - 2] * 2)


class NotACountOfTerms(unittest.TestCase):
    def test_none_and_above_sixteen(self):
        for steps in FINE:
            for k in (0, 17, 18, 255, 2 ** 32, FAR):
                self.assertEqual(terms(k, flat(*steps)), [-4])
            for k in (1, 2, 15, 16):
                answer = terms(k, flat(*steps))
                self.assertEqual(answer[:2], [len(answer) - 2] * 2)


if __name__ == "__main__":
    unittest.main()
