"""The continued fraction of a number, and the fraction that it is."""

from ruledroots.near import floor_over, rest_of
from ruledroots.tower import Number, parts_sign, scaled, sign_of, widened

FRACTION_LIMIT = 2147483648

# A fraction that has as many terms has a denominator that isn't below
# Fibonacci's 47th number, 2971215073, which is above the limit.
TOO_MANY_TERMS = 46


# The first terms, as many as most says, or all. What is still to be told is
# the quotient of two numbers, u / v: the rest over v, turned round, is the
# next one, so nothing is divided and the parts grow by their terms alone.
def terms_of(most, x, roots):
    u = x.parts
    v = widened([x.under], len(u))
    found = []
    while len(found) < most:
        term = floor_over(u, v, roots)
        found.append(term)
        rest = rest_of(u, v, term)
        if parts_sign(rest, roots) == 0:
            return found
        u = v
        v = rest
    return found


# A tuple of n and d, in lowest terms, d above 0 and both below the limit in
# size; None, if the number isn't such a fraction. All terms of the size, folded
# up from the last, give lowest terms.
def fraction_of(x, roots):
    side = sign_of(x, roots)
    found = terms_of(TOO_MANY_TERMS, Number(scaled(x.parts, side), x.under), roots)
    if len(found) == TOO_MANY_TERMS:
        return None
    n = 1
    d = 0
    for term in reversed(found):
        above = term * n + d
        d = n
        n = above
    if n >= FRACTION_LIMIT or d >= FRACTION_LIMIT:
        return None
    return (side * n, d)
