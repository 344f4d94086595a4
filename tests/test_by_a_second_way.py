"""A1 to A5: many rows, told wrong nowhere, against decimals of three thousand digits."""
import math
import random
import unittest

from ruledroots.rows import double, floor, order, ratio, sign, terms, text
from tests.helper import (
    GREATEST, LEAST, MINUS, OVER, PLUS, ROOT, TIMES, WHOLE, decimal_text, first_terms, ratio_answer, rounded_bits,
    span_minus, span_of, span_sign, stand_in, text_answer)

# Squares and their factors, so that many numbers are made in several ways.
SMALL = (-2, -1, 0, 1, 2, 3, 4, 5, 6, 8, 9, 12, 16, 25, 49)


def weight(op, left, right):
    return {WHOLE: 32, PLUS: left + right + 1, MINUS: left + right + 1, ROOT: left}.get(op, left + right)


def some_step(rng, weights, roots, large):
    count = len(weights)
    op = rng.choice((WHOLE, PLUS, MINUS, MINUS, TIMES, OVER, OVER, ROOT, ROOT)) if count > 1 else WHOLE
    if op == ROOT and roots == 3:
        op = WHOLE
    if op == WHOLE:
        v = rng.choice((rng.randint(LEAST, GREATEST), rng.randint(GREATEST - 9, GREATEST))) if large else None
        return [WHOLE, 0, 0, rng.choice(SMALL) if v is None else v]
    a = rng.randrange(count)
    return [op, a, 0 if op == ROOT else rng.randrange(count), 0]


def some_row(rng):
    """A row, the refusal that it must meet (None if there's none), and the spans of its steps."""
    p = []
    weights = []
    made = []
    refused = None
    large = rng.random() < 0.3
    count = rng.randint(8, 32)
    while len(weights) < count:
        step = some_step(rng, weights, p[::4].count(ROOT), large)
        op, a, b, _ = step
        grown = weight(op, weights[a], weights[b]) if weights else 32
        if grown > 256:
            continue
        if refused is None:
            refusal, span = span_of(step, made)
            # A row that can't be is tried too, but now and then only: nothing behind that step is looked at.
            if refusal and rng.random() < 0.9:
                continue
            if refusal:
                refused = [refusal, 1, len(made)]
            else:
                made.append(span)
        p += step
        weights.append(grown)
    return p, refused, made


class SecondWay(unittest.TestCase):
    def agree(self, rng):
        p, refused, made = some_row(rng)
        if refused:
            self.assertEqual(sign(p), refused, p)
            self.assertEqual(order(0, 99, p), refused, p)
            return refused[0]
        told = [1 + span_sign(made[-1])]
        self.assertEqual(sign(p), told, p)
        for i in range(len(made)):
            j = rng.randrange(len(made))
            self.assertEqual(order(i, j, p), [1 + span_sign(span_minus(made[i], made[j]))], (i, j, p))
        self.agree_on_number(p, stand_in(made[-1]))
        return told[0]

    def agree_on_number(self, p, number):
        self.assertEqual(floor(p), [0, 1, math.floor(number)], p)
        for mode in range(4):
            self.assertEqual(double(mode, p), [0, 1, rounded_bits(mode, number)], (mode, p))
        for places in (0, 1, 2, 17, 100):
            self.assertEqual(text(places, p), text_answer(decimal_text(number, places)), (places, p))
        for k in (1, 16):
            found = first_terms(number, k)
            self.assertEqual(terms(k, p), [len(found)] * 2 + found, (k, p))
        self.assertEqual(ratio(p), ratio_answer(number), p)

    def test_many_rows(self):
        rng = random.Random(20261116)
        seen = {}
        for _ in range(400):
            told = self.agree(rng)
            seen[told] = seen.get(told, 0) + 1
        for told in (-3, -2, 0, 1, 2):
            self.assertIn(told, seen)

    def test_laws(self):
        """Signs of sums and products are as they must be, and order is one order of all steps."""
        rng = random.Random(7)
        for _ in range(60):
            p, refused, _ = some_row(rng)
            if refused:
                continue
            signs = [sign(p[:4 * k + 4])[0] - 1 for k in range(len(p) // 4)]
            for k in range(len(signs)):
                op, a, b, _ = p[4 * k:4 * k + 4]
                if op in (TIMES, OVER):
                    self.assertEqual(signs[k], signs[a] * signs[b])
                if op == ROOT:
                    self.assertEqual(signs[k], signs[a])
                if op == PLUS and signs[a] * signs[b] >= 0:
                    self.assertEqual(signs[k], signs[a] or signs[b])
                if op == PLUS:
                    self.assertEqual(order(k, a, p), [1 + signs[b]])
                if op == MINUS:
                    self.assertEqual(order(a, b, p), [1 + signs[k]])
            self.one_order(p, rng)

    def one_order(self, p, rng):
        chosen = [rng.randrange(len(p) // 4) for _ in range(6)]
        told = {(i, j): order(i, j, p)[0] for i in chosen for j in chosen}
        for i in chosen:
            self.assertEqual(told[i, i], 1)
            for j in chosen:
                self.assertEqual(told[i, j] + told[j, i], 2)
                for k in chosen:
                    if told[i, j] <= 1 and told[j, k] <= 1:
                        self.assertEqual(told[i, k], min(told[i, j], told[j, k]))


if __name__ == "__main__":
    unittest.main()
