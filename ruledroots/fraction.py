"""The continued fraction of a number."""

from ruledroots.near import floor_over, rest_of
from ruledroots.tower import parts_sign, widened


# The first terms, as many as most says, or all. What is still to be told is
# the quotient of two numbers, u / v: the rest over v, turned round, is the
# next one, so nothing is divided and the parts grow by their terms alone.
def terms_of(most, x, roots):
    u = x.parts
    v = widened([x.under], len(u))
    found = []
    while len(found) < most:
        term = floor_over(u, v, roots)
        found.append(term)
        rest = rest_of(u, v, term)
        if parts_sign(rest, roots) == 0:
            return found
        u = v
        v = rest
    return found
