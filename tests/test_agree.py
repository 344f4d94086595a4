"""A1 to A4: the seven calls agree with one another, and answer alike for rows that make one number."""
import random
import unittest
from fractions import Fraction

from ruledroots.rows import double, floor, order, ratio, sign, terms, text
from tests.helper import (
    GREATEST, LEAST, Row, decimal_text, first_terms, pell, ratio_answer, rounded_bits, text_answer)
from tests.test_by_a_second_way import some_row


def all_answers(p):
    """What each call but order tells of the row's number."""
    return {
        "sign": sign(p),
        "floor": floor(p),
        "double": [double(mode, p) for mode in range(4)],
        "text": [text(places, p) for places in (0, 1, 2, 20, 100)],
        "terms": [terms(k, p) for k in (1, 2, 16)],
        "ratio": ratio(p),
    }


def answers_for(fraction):
    """The same, of a fraction."""
    found = [first_terms(fraction, k) for k in (1, 2, 16)]
    return {
        "sign": [1 + (fraction > 0) - (fraction < 0)],
        "floor": [0, 1, fraction.numerator // fraction.denominator],
        "double": [[0, 1, rounded_bits(mode, fraction)] for mode in range(4)],
        "text": [text_answer(decimal_text(fraction, places)) for places in (0, 1, 2, 20, 100)],
        "terms": [[len(some)] * 2 + some for some in found],
        "ratio": ratio_answer(fraction),
    }


def told_number(answer):
    """The fraction that a text tells."""
    return Fraction(bytes(answer[2:]).decode("ascii"))


class OneRow(unittest.TestCase):
    def agree(self, p):
        told = sign(p)[0] - 1
        below = floor(p)[2]
        self.assertEqual(terms(1, p)[2], below)
        self.assertEqual(terms(16, p)[2], below)
        self.agree_with_sign(p, told)
        self.agree_with_floor(p, below)
        if ratio(p) != [0]:
            self.assertEqual(all_answers(p), answers_for(Fraction(*ratio(p)[2:])), p)
        else:
            self.assertNotEqual(told, 0)

    def agree_with_sign(self, p, told):
        if told == 0:
            self.assertEqual(all_answers(p), answers_for(Fraction(0)), p)
            self.assertEqual(ratio(p), [1, 2, 0, 1])
            self.assertEqual([double(mode, p) for mode in range(4)], [[0, 1, 0]] * 4)
        for mode in range(4):
            self.assertEqual(double(mode, p)[2] >= 2 ** 63, told < 0)
        self.assertEqual(floor(p)[2] < 0, told < 0)
        for places in (0, 30):
            shown = told_number(text(places, p))
            self.assertEqual(shown < 0, told < 0 and shown != 0)

    def agree_with_floor(self, p, below):
        for places in (0, 1, 100):
            shown = told_number(text(places, p))
            self.assertLessEqual(below, shown)
            self.assertLessEqual(shown, below + 1)
        whole = len(terms(2, p)) == 3
        if abs(below) < 2 ** 31:
            self.assertEqual(whole, ratio(p)[3:] == [1])
        # The number against its floor, by order, if there's room for that.
        if LEAST <= below <= GREATEST and len(p) < 128:
            last = len(p) // 4
            self.assertEqual(order(last - 1, last, p + [0, 0, 0, below]), [1 if whole else 2])

    def test_many_rows(self):
        rng = random.Random(41)
        seen = {}
        for _ in range(400):
            p, refused, _ = some_row(rng)
            if refused:
                told = [sign(p), floor(p), ratio(p), *(call(1, p) for call in (double, text, terms)), order(0, 0, p)]
                self.assertEqual(told, [refused] * 7)
            else:
                self.agree(p)
                key = (sign(p)[0], ratio(p)[0])
                seen[key] = seen.get(key, 0) + 1
        self.assertEqual(sorted(seen), [(0, 0), (0, 1), (1, 1), (2, 0), (2, 1)])

    def test_each_step_of_some_rows(self):
        rng = random.Random(42)
        for _ in range(20):
            p, refused, _ = some_row(rng)
            if not refused:
                for k in range(4, len(p), 4):
                    self.agree(p[:k])


def zeros():
    """Rows that make 0."""
    row = Row()
    row.whole(0)
    yield row
    row = Row()
    row.minus(row.whole(LEAST), row.whole(LEAST))
    yield row
    row = Row()
    row.root_of(0)
    yield row
    row = Row()
    row.over(row.root_of(0), row.whole(-7))
    yield row
    row = Row()
    row.minus(row.whole(3), row.root_of(9))
    yield row
    row = Row()
    row.minus(row.plus(row.root_of(2), row.root_of(8)), row.root_of(18))
    yield row
    row = Row()
    row.minus(row.root(row.plus(row.whole(3), row.root_of(8))), row.plus(row.whole(1), row.root_of(2)))
    yield row
    row = Row()
    row.root(row.minus(row.root_of(4), row.whole(2)))
    yield row


def halves():
    """Rows that make 5 and a half: in the middle between two texts without places."""
    row = Row()
    row.fraction(11, 2)
    yield row
    row = Row()
    row.root(row.fraction(121, 4))
    yield row
    row = Row()
    row.over(row.root_of(242), row.root_of(8))
    yield row
    row = Row()
    one = row.minus(row.root(row.plus(row.whole(3), row.root_of(8))), row.root_of(2))
    row.times(row.fraction(11, 2), one)
    yield row
    row = Row()
    root = row.root_of(7)
    row.minus(row.plus(row.fraction(-22, -4), root), root)
    yield row


def middles():
    """Rows that make 2^54 - 1: in the middle between two doubles."""
    row = Row()
    row.product(2 ** 27 - 1, 2 ** 27 + 1)
    yield row
    row = Row()
    row.minus(row.product(2 ** 27, 2 ** 27), row.whole(1))
    yield row
    row = Row()
    product = row.product(2 ** 27 - 1, 2 ** 27 + 1)
    row.root(row.times(product, product))
    yield row
    row = Row()
    row.minus(row.product(2 ** 27, 2 ** 27), row.over(row.root_of(5), row.root_of(5)))
    yield row


def silver():
    """Rows that make 1 and the root of 2."""
    row = Row()
    row.plus(row.whole(1), row.root_of(2))
    yield row
    row = Row()
    row.root(row.plus(row.whole(3), row.root_of(8)))
    yield row
    row = Row()
    row.over(row.whole(1), row.minus(row.root_of(2), row.whole(1)))
    yield row
    row = Row()
    row.over(row.plus(row.root_of(3), row.root_of(6)), row.root_of(3))
    yield row
    row = Row()
    two = row.whole(2)
    row.plus(row.over(two, row.root(two)), row.whole(1))
    yield row


def roots_of_ten():
    """Rows that make the root of 10, below 0."""
    row = Row()
    row.negative(row.root_of(10))
    yield row
    row = Row()
    row.times(row.root_of(2), row.times(row.whole(-1), row.root_of(5)))
    yield row
    row = Row()
    first = row.root(row.plus(row.whole(3), row.root_of(5)))
    row.negative(row.plus(first, row.over(row.whole(2), first)))
    yield row


def far_out():
    """Rows that make 1 over x - y root 2, for the largest x and y whose squares fit."""
    x, y = pell(GREATEST)[1]
    row = Row()
    row.over(row.whole(1), row.minus(row.whole(x), row.times(row.whole(y), row.root_of(2))))
    yield row
    row = Row()
    row.plus(row.whole(x), row.times(row.whole(y), row.root_of(2)))
    yield row
    row = Row()
    row.plus(row.root(row.power(x, 2)), row.root(row.times(row.power(y, 2), row.whole(2))))
    yield row


class RowsThatMakeOneNumber(unittest.TestCase):
    def test_they_get_the_same_answers(self):
        for made in (zeros, halves, middles, silver, roots_of_ten, far_out):
            given = [row.p for row in made()]
            self.assertGreaterEqual(len(given), 3)
            first = all_answers(given[0])
            self.assertNotEqual(first["floor"][0], -1)
            for p in given:
                self.assertEqual(all_answers(p), first, (made.__name__, p))

    def test_order_tells_them_to_be_the_same(self):
        for made in (zeros, halves, middles, silver, roots_of_ten, far_out):
            given = [row.p for row in made()]
            told = 0
            for p in given:
                for q in given:
                    told += self.same_by_order(p, q)
            self.assertGreater(told, len(given))

    def same_by_order(self, p, q):
        """Both rows as one, the second's steps behind the first's; False if that has too many roots."""
        count = len(p) // 4
        both = list(p)
        for k in range(0, len(q), 4):
            op, a, b, v = q[k:k + 4]
            both += [op, a + count if op > 0 else 0, b + count if 0 < op < 5 else 0, v]
        if both[::4].count(5) > 3:
            return False
        last = len(both) // 4 - 1
        self.assertEqual(order(count - 1, last, both), [1])
        self.assertEqual(order(last, count - 1, both), [1])
        return True

    def test_fractions(self):
        for made, fraction in ((zeros, Fraction(0)), (halves, Fraction(11, 2)), (middles, Fraction(2 ** 54 - 1))):
            for row in made():
                self.assertEqual(all_answers(row.p), answers_for(fraction))


class Squares(unittest.TestCase):
    """A2: a root isn't below 0, and its square is the number."""

    def test_they_answer_as_the_number(self):
        rng = random.Random(43)
        count = 0
        while count < 30:
            p, refused, _ = some_row(rng)
            if refused or p[::4].count(5) > 2 or len(p) > 120:
                continue
            last = len(p) // 4 - 1
            square = p + [5, last, 0, 0, 3, last + 1, last + 1, 0]
            answer = sign(square)
            if answer[0] == -1:
                continue
            count += 1
            if sign(p) == [0]:
                self.assertEqual(answer, [-3, 1, last + 1])
                continue
            self.assertGreaterEqual(sign(square[:-4])[0], 1)
            self.assertEqual(all_answers(square), all_answers(p))
            self.assertEqual(order(last, last + 2, square), [1])


if __name__ == "__main__":
    unittest.main()
