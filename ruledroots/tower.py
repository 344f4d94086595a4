"""Exact numbers over square roots that are taken one upon another.

A number is a list of whole numbers, its parts, over one whole number above 0.
One part is that whole number itself. Else the parts are as many as a power of
two, and stand for: the first half's number, and the second half's times the
square root of roots[half], where half is how many parts a half has.

roots is a dict: roots[1], roots[2], roots[4] and so on are the parts of what
the first, second, third root is taken of, as many parts as the key says. Each
is a number above 0. It may be the square of a number that is there already, so
one number may have many lists of parts: that a number is 0 is told by sign_of
alone, never by its parts.
"""


class Number:
    def __init__(self, parts, under):
        self.parts = parts
        self.under = under


def whole(v):
    return Number([v], 1)


def common_divisor(m, n):
    while n != 0:
        rest = m % n
        m = n
        n = rest
    return m


# Without it the parts of quotients of quotients would grow by each step.
def reduced(parts, under):
    while len(parts) > 1 and not any(parts[len(parts) // 2:]):
        parts = parts[:len(parts) // 2]
    divisor = under
    for part in parts:
        divisor = common_divisor(part, divisor)
    return Number([part // divisor for part in parts], under // divisor)


def widened(parts, size):
    return parts + [0] * (size - len(parts))


def scaled(parts, factor):
    return [part * factor for part in parts]


def parts_sum(u, v):
    return [u[k] + v[k] for k in range(len(u))]


def parts_product(u, v, roots):
    if not any(u) or not any(v):
        return [0] * len(u)
    half = len(u) // 2
    if half == 0:
        return [u[0] * v[0]]
    a = u[:half]
    b = u[half:]
    c = v[:half]
    d = v[half:]
    beside_root = parts_product(parts_product(b, d, roots), roots[half], roots)
    first = parts_sum(parts_product(a, c, roots), beside_root)
    second = parts_sum(parts_product(a, d, roots), parts_product(b, c, roots))
    return first + second


# The square of the first half less the square of the rest: a number without
# the outermost root.
def parts_norm(parts, roots):
    half = len(parts) // 2
    a = parts[:half]
    b = parts[half:]
    rest = parts_product(parts_product(b, b, roots), roots[half], roots)
    return parts_sum(parts_product(a, a, roots), scaled(rest, -1))


def whole_sign(n):
    if n < 0:
        return -1
    return 1 if n > 0 else 0


# -1, 0 or 1. Where both halves pull apart, the one whose square is greater
# wins; this holds whether or not the root is a number without a root.
def parts_sign(parts, roots):
    half = len(parts) // 2
    if half == 0:
        return whole_sign(parts[0])
    first = parts_sign(parts[:half], roots)
    second = parts_sign(parts[half:], roots)
    if second == 0 or first == second:
        return first
    if first == 0:
        return second
    return first * parts_sign(parts_norm(parts, roots), roots)


def sign_of(x, roots):
    return parts_sign(x.parts, roots)


def plus(x, y):
    size = max(len(x.parts), len(y.parts))
    u = scaled(widened(x.parts, size), y.under)
    v = scaled(widened(y.parts, size), x.under)
    return reduced(parts_sum(u, v), x.under * y.under)


def minus(x, y):
    return plus(x, Number(scaled(y.parts, -1), y.under))


def times(x, y, roots):
    size = max(len(x.parts), len(y.parts))
    u = widened(x.parts, size)
    v = widened(y.parts, size)
    return reduced(parts_product(u, v, roots), x.under * y.under)


# x must not be 0. If the norm is 0, the first half is the rest or the rest's
# opposite; the opposite would make x 0, so x is twice its first half.
def inverse(x, roots):
    half = len(x.parts) // 2
    if half == 0:
        n = x.parts[0]
        return reduced([x.under if n > 0 else -x.under], abs(n))
    a = x.parts[:half]
    b = x.parts[half:]
    norm = parts_norm(x.parts, roots)
    if parts_sign(norm, roots) == 0:
        return inverse(reduced(scaled(a, 2), x.under), roots)
    other = Number(a + scaled(b, -1), 1)
    return times(other, inverse(reduced(norm, x.under), roots), roots)


def over(x, y, roots):
    return times(x, inverse(y, roots), roots)


# x must not be below 0. The new root is put into roots, but for the root of 0:
# roots holds numbers above 0 alone, as parts_sign asks. As parts are whole, the
# root of n / d is held as the root of n * d, over d.
def root(x, roots):
    if sign_of(x, roots) == 0:
        return whole(0)
    half = 1 << len(roots)
    roots[half] = widened(scaled(x.parts, x.under), half)
    return Number([0] * half + [1] + [0] * (half - 1), x.under)
