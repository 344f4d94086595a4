"""Whole numbers just below quotients of two numbers of a tower, told exactly.

Both numbers are given by their parts, equally many, over the same roots (see
tower). Where a number about lies is told by a span: a tuple of two whole
numbers, one that isn't above it and one that isn't below it, both in units of
one over 1 << bits. Spans only find what may be the answer; where they leave
open which of two it is, a sign settles it.
"""

from ruledroots.tower import parts_sign, parts_sum, scaled

FIRST_BITS = 64


# The greatest whole number whose square isn't above n; n must not be below 0.
# The first guess is never too small, so each better one comes from above.
def whole_root(n):
    if n == 0:
        return 0
    guess = 1 << ((n.bit_length() + 1) // 2)
    better = (guess + n // guess) // 2
    while better < guess:
        guess = better
        better = (guess + n // guess) // 2
    return guess


# The number is above 0, though its span may not show it yet.
def root_span(span, bits):
    return (whole_root(max(span[0], 0) << bits), whole_root(span[1] << bits) + 1)


# factor is the span of a number that isn't below 0.
def span_product(span, factor, bits):
    low = span[0] * (factor[0] if span[0] >= 0 else factor[1])
    high = span[1] * (factor[1] if span[1] >= 0 else factor[0])
    return (low >> bits, -(-high >> bits))


def parts_span(parts, spans, bits):
    half = len(parts) // 2
    if half == 0:
        return (parts[0] << bits, parts[0] << bits)
    first = parts_span(parts[:half], spans, bits)
    second = span_product(parts_span(parts[half:], spans, bits), spans[half], bits)
    return (first[0] + second[0], first[1] + second[1])


# The spans of the square roots, by the keys of roots. A root is taken of what
# is made with those before it alone, so their spans are there.
def root_spans(roots, bits):
    spans = {}
    for half in sorted(roots):
        spans[half] = root_span(parts_span(roots[half], spans, bits), bits)
    return spans


# Two whole numbers between which the floor of u / v lies, both of which it may
# be; None while the span of v, which is above 0, doesn't show this.
def floor_ends(u, v, roots, bits):
    spans = root_spans(roots, bits)
    over = parts_span(u, spans, bits)
    under = parts_span(v, spans, bits)
    if under[0] <= 0:
        return None
    low = over[0] // (under[1] if over[0] >= 0 else under[0])
    high = over[1] // (under[0] if over[1] >= 0 else under[1])
    return (low, high)


def rest_of(u, v, n):
    return parts_sum(u, scaled(v, -n))


# The greatest whole number that isn't above u / v; v's number must be above 0.
# More bits alone would never settle a quotient that is a whole number.
def floor_over(u, v, roots):
    bits = FIRST_BITS
    ends = floor_ends(u, v, roots, bits)
    while ends is None or ends[1] - ends[0] > 1:
        bits = 2 * bits
        ends = floor_ends(u, v, roots, bits)
    if ends[0] < ends[1] and parts_sign(rest_of(u, v, ends[1]), roots) < 0:
        return ends[0]
    return ends[1]


# The quotient itself, if it is a whole number, else the odd one of the two
# beside it. It lies to every even whole number as the quotient does: less, the
# same or greater.
def odd_floor_over(u, v, roots):
    n = floor_over(u, v, roots)
    if parts_sign(rest_of(u, v, n), roots) == 0:
        return n
    return n | 1
