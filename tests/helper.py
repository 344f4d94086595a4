"""What several tests share: rows written shortly, and a second way to work rows out.

The second way knows nothing of the package. It works with decimals between
two ends, and takes a number for 0 when both ends are nearer to 0 than any
other number of such a weight can be.
"""
import decimal
import math
import struct
from fractions import Fraction

WHOLE, PLUS, MINUS, TIMES, OVER, ROOT = range(6)

LEAST = -2147483648
GREATEST = 2147483647


class Row:
    """Steps one behind another; each method adds a step and answers its number."""

    def __init__(self):
        self.p = []

    def step(self, op, a=0, b=0, v=0):
        self.p += [op, a, b, v]
        return len(self.p) // 4 - 1

    def whole(self, v):
        return self.step(WHOLE, v=v)

    def plus(self, a, b):
        return self.step(PLUS, a, b)

    def minus(self, a, b):
        return self.step(MINUS, a, b)

    def times(self, a, b):
        return self.step(TIMES, a, b)

    def over(self, a, b):
        return self.step(OVER, a, b)

    def root(self, a):
        return self.step(ROOT, a)

    def root_of(self, v):
        return self.root(self.whole(v))


    def power(self, v, n):
        """The n-th power of v, each factor a step of its own."""
        return self.product(*[v] * n)

    def product(self, *values):
        """The product of whole numbers, each a step of its own."""
        last = self.whole(values[0])
        for v in values[1:]:
            last = self.times(last, self.whole(v))
        return last

    def fraction(self, top, bottom):
        return self.over(self.whole(top), self.whole(bottom))

    def negative(self, a):
        return self.minus(self.whole(0), a)


def flat(*steps):
    return [number for step in steps for number in step]


def pell(limit):
    """The largest x, y with x x - 2 y y = 1 and the largest with -1, x up to the limit."""
    x, y = 1, 1
    found = {}
    while x <= limit:
        found[x * x - 2 * y * y] = (x, y)
        x, y = x + 2 * y, x + y
    return found


def double_bits(number):
    """The 64 bits of one of Python's own doubles, as a number."""
    return struct.unpack("<Q", struct.pack("<d", number))[0]


def nearest_double(fraction):
    try:
        # Python divides whole numbers to the nearest double, of two as near to the even one.
        return fraction.numerator / fraction.denominator
    except OverflowError:
        return math.inf if fraction > 0 else -math.inf


def rounded_bits(mode, fraction):
    """The 64 bits of the double to which a fraction is rounded by a mode."""
    nearest = nearest_double(fraction)
    low = high = nearest
    # Python compares a double with a fraction exactly.
    if nearest > fraction:
        low = math.nextafter(nearest, -math.inf)
    elif nearest < fraction:
        high = math.nextafter(nearest, math.inf)
    chosen = (nearest, low, high, low if fraction > 0 else high)[mode]
    if chosen == 0:
        chosen = -0.0 if fraction < 0 else 0.0
    return double_bits(chosen)


def decimal_text(fraction, places):
    """A fraction in decimal, rounded to so many places."""
    # Python rounds a fraction to the nearest whole number, of two as near to the even one.
    units = round(abs(fraction) * 10 ** places)
    digits = str(units // 10 ** places)
    if places > 0:
        digits += "." + str(units % 10 ** places).rjust(places, "0")
    return "-" + digits if fraction < 0 and units != 0 else digits


def text_answer(expected):
    return [len(expected)] * 2 + list(expected.encode("ascii"))


def ratio_answer(fraction):
    n, d = fraction.numerator, fraction.denominator
    return [1, 2, n, d] if max(abs(n), d) < 2 ** 31 else [0]


def first_terms(fraction, count):
    """The first terms of a fraction's continued fraction, or all."""
    found = []
    while len(found) < count:
        found.append(math.floor(fraction))
        fraction -= found[-1]
        if fraction == 0:
            break
        fraction = 1 / fraction
    return found


# A difference of two numbers of weight 256 over three roots has the degree 8
# and the weight 513 at most: if it isn't 0, it isn't below 2^-(8 * 513).
NEAREST_TO_ZERO = decimal.Decimal(10) ** -1300
DIGITS = 3000


def context(rounding):
    return decimal.Context(prec=DIGITS, rounding=rounding, Emin=-10 ** 9, Emax=10 ** 9)


DOWN = context(decimal.ROUND_FLOOR)
UP = context(decimal.ROUND_CEILING)


def settled(low, high):
    if low > 0 or high < 0:
        return low, high
    if max(-low, high) >= NEAREST_TO_ZERO:
        raise ArithmeticError("too few digits")
    return decimal.Decimal(0), decimal.Decimal(0)


def span_sign(span):
    return (span[0] > 0) - (span[1] < 0)


def span_plus(x, y):
    return settled(DOWN.add(x[0], y[0]), UP.add(x[1], y[1]))


def span_minus(x, y):
    return settled(DOWN.subtract(x[0], y[1]), UP.subtract(x[1], y[0]))


def span_times(x, y):
    pairs = [(s, t) for s in x for t in y]
    return (min(DOWN.multiply(s, t) for s, t in pairs), max(UP.multiply(s, t) for s, t in pairs))


def span_over(x, y):
    pairs = [(s, t) for s in x for t in y]
    return (min(DOWN.divide(s, t) for s, t in pairs), max(UP.divide(s, t) for s, t in pairs))


def span_root(x):
    if x[1] == 0:
        return x
    return (DOWN.next_minus(DOWN.sqrt(x[0])), UP.next_plus(UP.sqrt(x[1])))


SPAN_OF_TWO = {PLUS: span_plus, MINUS: span_minus, TIMES: span_times, OVER: span_over}


def span_of(step, made):
    """The refusal, 0 if there's none, and the span of a step behind those made. It must not be told wrong."""
    op, a, b, v = step
    if op == WHOLE:
        return 0, (decimal.Decimal(v), decimal.Decimal(v))
    if op == ROOT:
        return (-3, None) if span_sign(made[a]) < 0 else (0, span_root(made[a]))
    if op == OVER and span_sign(made[b]) == 0:
        return -2, None
    return 0, SPAN_OF_TWO[op](made[a], made[b])


def spans_of(p):
    """The spans of all steps of a row that is refused nowhere."""
    made = []
    for k in range(0, len(p), 4):
        refusal, span = span_of(p[k:k + 4], made)
        if refusal:
            raise ArithmeticError("can't be")
        made.append(span)
    return made


def simplest_between(low, high, limit):
    """The fraction of the least denominator from low to high; None, if it's above the limit."""
    tops = (0, 1)
    bottoms = (1, 0)
    # Two whole numbers each, as fractions would be brought to lowest terms again and again.
    low = (low.numerator, low.denominator)
    high = (high.numerator, high.denominator)
    while bottoms[1] <= limit:
        term, rest = divmod(*low)
        last = rest == 0 or high[0] // high[1] > term
        if last and rest != 0:
            term += 1
        tops = (tops[1], term * tops[1] + tops[0])
        bottoms = (bottoms[1], term * bottoms[1] + bottoms[0])
        if last:
            return Fraction(tops[1], bottoms[1])
        low, high = (high[1], high[0] - term * high[1]), (low[1], rest)
    return None


def stand_in(span):
    """The number as a fraction, if it is one; else a fraction that agrees with it in nearly all of its digits.

    A fraction of few digits that lies between two ends of so many is taken to be the number.
    """
    low, high = Fraction(span[0]), Fraction(span[1])
    simplest = simplest_between(low, high, 10 ** 700)
    return low if simplest is None else simplest


def number_of(p):
    return stand_in(spans_of(p)[-1])
