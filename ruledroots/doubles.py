"""The bits of the double (IEEE 754 binary64) to which a number is rounded."""

from ruledroots.near import odd_floor_over
from ruledroots.tower import scaled, sign_of, widened

NEAREST = 0
NOT_ABOVE = 1
NOT_BELOW = 2
TO_ZERO = 3

# The least double above 0 is 1 over 1 << 1074. Two bits behind it tell on
# which side of the middle between two doubles a number lies.
BITS_BEHIND = 1076
BITS_TO_SPARE = 2
EXACT_BITS = 53

INFINITE = 9218868437227405312
BELOW_ZERO = 9223372036854775808


def double_of(mode, x, roots):
    side = sign_of(x, roots)
    u = scaled(x.parts, side << BITS_BEHIND)
    size = odd_floor_over(u, widened([x.under], len(u)), roots)
    if side < 0:
        return BELOW_ZERO + size_bits(mode_of_size(mode), size)
    return size_bits(mode, size)


# What a mode asks of the size of a number below 0.
def mode_of_size(mode):
    if mode == NOT_ABOVE:
        return NOT_BELOW
    if mode == NOT_BELOW:
        return NOT_ABOVE
    return mode


# The bits of doubles that aren't below 0, read as whole numbers, are in the
# order of the doubles: the next double's are one more, over powers of two too.
def size_bits(mode, size):
    spare = max(size.bit_length() - EXACT_BITS, BITS_TO_SPARE)
    kept = size >> spare
    bits = ((spare - BITS_TO_SPARE) << (EXACT_BITS - 1)) + kept
    if bits >= INFINITE:
        return INFINITE - 1 if mode == NOT_ABOVE or mode == TO_ZERO else INFINITE
    if goes_up(mode, kept, size - (kept << spare), 1 << (spare - 1)):
        return bits + 1
    return bits


def goes_up(mode, kept, rest, middle):
    if mode == NEAREST:
        return rest > middle or (rest == middle and kept % 2 == 1)
    return mode == NOT_BELOW and rest > 0
