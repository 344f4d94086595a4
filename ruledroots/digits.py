"""A number in decimal, rounded once."""

from ruledroots.near import odd_floor_over
from ruledroots.tower import scaled, sign_of, widened


def digits_of(places, x, roots):
    side = sign_of(x, roots)
    n = rounded_size(places, x, side, roots)
    digits = str(n).zfill(places + 1)
    point = len(digits) - places
    shown = digits[:point]
    if places > 0:
        shown = shown + "." + digits[point:]
    if side < 0 and n > 0:
        shown = "-" + shown
    return shown


# How many units of the last place. Quarters of a unit tell on which side of
# the middle between two units the number lies.
def rounded_size(places, x, side, roots):
    u = scaled(x.parts, side * 4 * power_of_ten(places))
    quarters = odd_floor_over(u, widened([x.under], len(u)), roots)
    n = quarters // 4
    rest = quarters % 4
    if rest == 3 or (rest == 2 and n % 2 == 1):
        return n + 1
    return n


def power_of_ten(places):
    power = 1
    for place in range(places):
        power = 10 * power
    return power
