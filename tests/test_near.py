"""A3: what floors are found by: spans hold their numbers with however few bits, and floors of quotients are exact."""
import math
import random
import unittest

from ruledroots.near import floor_ends, floor_over, odd_floor_over, parts_span, root_spans, whole_root
from ruledroots.rows import row_of
from ruledroots.tower import scaled, widened
from tests.helper import GREATEST, Row, pell, span_over, span_sign, spans_of, stand_in
from tests.test_by_a_second_way import some_row

FEW_BITS = (0, 1, 2, 3, 7, 20, 64, 65)


def parts_of_both(x, y):
    """Equally many parts of two numbers whose quotient is that of x and y."""
    size = max(len(x.parts), len(y.parts))
    return scaled(widened(x.parts, size), y.under), scaled(widened(y.parts, size), x.under)


def some_made_rows(seed, count):
    rng = random.Random(seed)
    while count > 0:
        p, refused, made = some_row(rng)
        if refused is None:
            count -= 1
            yield rng, row_of(p), made


class WholeRoots(unittest.TestCase):
    def test_small_ones(self):
        for n in range(3000):
            self.assertEqual(whole_root(n), math.isqrt(n))

    def test_beside_squares(self):
        for v in (2 ** 31, GREATEST, 10 ** 40, 2 ** 500 - 1, 2 ** 500, 3 ** 700):
            for n in (v * v - 1, v * v, v * v + 1, v * v + 2 * v, 2 * v * v):
                self.assertEqual(whole_root(n), math.isqrt(n))


class Spans(unittest.TestCase):
    def test_they_hold_the_number(self):
        for _, row, made in some_made_rows(11, 40):
            for x, number in zip(row.numbers, made):
                number = stand_in(number) * x.under
                for bits in FEW_BITS:
                    low, high = parts_span(x.parts, root_spans(row.roots, bits), bits)
                    self.assertLessEqual(low, number * 2 ** bits)
                    self.assertGreaterEqual(high, number * 2 ** bits)

    def test_they_hold_roots_of_nearly_nothing(self):
        # With few bits x - y root 2 isn't yet shown to be above 0.
        x, y = pell(GREATEST)[1]
        made = Row()
        small = made.minus(made.whole(x), made.times(made.whole(y), made.root_of(2)))
        made.root(small)
        row = row_of(made.p)
        number = stand_in(spans_of(made.p)[-1])
        for bits in range(0, 100, 3):
            low, high = parts_span(row.numbers[-1].parts, root_spans(row.roots, bits), bits)
            self.assertLessEqual(low, number * 2 ** bits)
            self.assertGreaterEqual(high, number * 2 ** bits)
        self.assertGreater(low, 0)

    def test_more_bits_make_them_narrow(self):
        made = Row()
        made.root(made.plus(made.whole(3), made.root(made.plus(made.whole(5), made.root_of(7)))))
        row = row_of(made.p)
        for bits in (64, 128, 1000):
            low, high = parts_span(row.numbers[-1].parts, root_spans(row.roots, bits), bits)
            self.assertLessEqual(high - low, 16)


class Quotients(unittest.TestCase):
    def quotients(self, seed, count):
        """Parts of two numbers, the second above 0, their roots, and their quotient."""
        for rng, row, made in some_made_rows(seed, count):
            above = [k for k in range(len(made)) if span_sign(made[k]) > 0]
            for j in above:
                i = rng.randrange(len(made))
                u, v = parts_of_both(row.numbers[i], row.numbers[j])
                yield u, v, row.roots, stand_in(span_over(made[i], made[j]))

    def test_ends_hold_the_floor(self):
        seen = set()
        for u, v, roots, number in self.quotients(12, 30):
            for bits in FEW_BITS:
                ends = floor_ends(u, v, roots, bits)
                seen.add(ends is None)
                if ends is None:
                    self.assertLessEqual(parts_span(v, root_spans(roots, bits), bits)[0], 0)
                else:
                    self.assertLessEqual(ends[0], math.floor(number))
                    self.assertGreaterEqual(ends[1], math.floor(number))
        self.assertEqual(seen, {True, False})

    def test_floors(self):
        for u, v, roots, number in self.quotients(13, 30):
            self.assertEqual(floor_over(u, v, roots), math.floor(number))

    def test_odd_floors(self):
        seen = set()
        for u, v, roots, number in self.quotients(14, 30):
            whole = number.denominator == 1
            expected = number if whole else math.floor(number) // 2 * 2 + 1
            seen.add((whole, expected % 2))
            self.assertEqual(odd_floor_over(u, v, roots), expected)
        self.assertEqual(seen, {(True, 0), (True, 1), (False, 1)})


if __name__ == "__main__":
    unittest.main()
