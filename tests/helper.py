"""What several tests share: rows written shortly, and a second way to work rows out.

The second way knows nothing of the package. It works with decimals between
two ends, and takes a number for 0 when both ends are nearer to 0 than any
other number of such a weight can be.
"""
import decimal

WHOLE, PLUS, MINUS, TIMES, OVER, ROOT = range(6)

LEAST = -2147483648
GREATEST = 2147483647


class Row:
    """Steps one behind another; each method adds a step and answers its number."""

    def __init__(self):
        self.p = []

    def step(self, op, a=0, b=0, v=0):
        self.p += [op, a, b, v]
        return len(self.p) // 4 - 1

    def whole(self, v):
        return self.step(WHOLE, v=v)

    def plus(self, a, b):
        return self.step(PLUS, a, b)

    def minus(self, a, b):
        return self.step(MINUS, a, b)

    def times(self, a, b):
        return self.step(TIMES, a, b)

    def over(self, a, b):
        return self.step(OVER, a, b)

    def root(self, a):
        return self.step(ROOT, a)

    def root_of(self, v):
        return self.root(self.whole(v))


def flat(*steps):
    return [number for step in steps for number in step]


# A difference of two numbers of weight 256 over three roots has the degree 8
# and the weight 513 at most: if it isn't 0, it isn't below 2^-(8 * 513).
NEAREST_TO_ZERO = decimal.Decimal(10) ** -1300
DIGITS = 3000


def context(rounding):
    return decimal.Context(prec=DIGITS, rounding=rounding, Emin=-10 ** 9, Emax=10 ** 9)


DOWN = context(decimal.ROUND_FLOOR)
UP = context(decimal.ROUND_CEILING)


def settled(low, high):
    if low > 0 or high < 0:
        return low, high
    if max(-low, high) >= NEAREST_TO_ZERO:
        raise ArithmeticError("too few digits")
    return decimal.Decimal(0), decimal.Decimal(0)


def span_sign(span):
    return (span[0] > 0) - (span[1] < 0)


def span_plus(x, y):
    return settled(DOWN.add(x[0], y[0]), UP.add(x[1], y[1]))


def span_minus(x, y):
    return settled(DOWN.subtract(x[0], y[1]), UP.subtract(x[1], y[0]))


def span_times(x, y):
    pairs = [(s, t) for s in x for t in y]
    return (min(DOWN.multiply(s, t) for s, t in pairs), max(UP.multiply(s, t) for s, t in pairs))


def span_over(x, y):
    pairs = [(s, t) for s in x for t in y]
    return (min(DOWN.divide(s, t) for s, t in pairs), max(UP.divide(s, t) for s, t in pairs))


def span_root(x):
    if x[1] == 0:
        return x
    return (DOWN.next_minus(DOWN.sqrt(x[0])), UP.next_plus(UP.sqrt(x[1])))


SPAN_OF_TWO = {PLUS: span_plus, MINUS: span_minus, TIMES: span_times, OVER: span_over}


def span_of(step, made):
    """The refusal, 0 if there's none, and the span of a step behind those made. It must not be told wrong."""
    op, a, b, v = step
    if op == WHOLE:
        return 0, (decimal.Decimal(v), decimal.Decimal(v))
    if op == ROOT:
        return (-3, None) if span_sign(made[a]) < 0 else (0, span_root(made[a]))
    if op == OVER and span_sign(made[b]) == 0:
        return -2, None
    return 0, SPAN_OF_TWO[op](made[a], made[b])
