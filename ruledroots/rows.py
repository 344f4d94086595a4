"""The calls: each takes a row of steps, one list of four whole numbers a step, and answers a list."""

from ruledroots.digits import digits_of
from ruledroots.doubles import double_of
from ruledroots.fraction import fraction_of, terms_of
from ruledroots.near import floor_over
from ruledroots.steps import MINUS, MOST_STEPS, OVER, PLUS, ROOT, TIMES, WHOLE, first_wrong, steps_of
from ruledroots.tower import minus, over, plus, root, sign_of, times, whole, widened

LAST_MODE = 3
MOST_PLACES = 100
MOST_TERMS = 16


def sign(p):
    row = row_of(p)
    if row.refusal != []:
        return row.refusal
    return [1 + sign_of(row.numbers[-1], row.roots)]


def order(i, j, p):
    row = row_of(p)
    if row.refusal != []:
        return row.refusal
    if i >= len(row.numbers) or j >= len(row.numbers):
        return [-4]
    return [1 + sign_of(minus(row.numbers[i], row.numbers[j]), row.roots)]


def floor(p):
    row = row_of(p)
    if row.refusal != []:
        return row.refusal
    x = row.numbers[-1]
    return [0, 1, floor_over(x.parts, widened([x.under], len(x.parts)), row.roots)]


def double(mode, p):
    row = row_of(p)
    if row.refusal != []:
        return row.refusal
    if mode > LAST_MODE:
        return [-4]
    return [0, 1, double_of(mode, row.numbers[-1], row.roots)]


def text(places, p):
    row = row_of(p)
    if row.refusal != []:
        return row.refusal
    if places > MOST_PLACES:
        return [-4]
    shown = digits_of(places, row.numbers[-1], row.roots)
    return [len(shown), len(shown)] + [ord(letter) for letter in shown]


def terms(k, p):
    row = row_of(p)
    if row.refusal != []:
        return row.refusal
    if k < 1 or k > MOST_TERMS:
        return [-4]
    found = terms_of(k, row.numbers[-1], row.roots)
    return [len(found), len(found)] + found


def ratio(p):
    row = row_of(p)
    if row.refusal != []:
        return row.refusal
    found = fraction_of(row.numbers[-1], row.roots)
    if found is None:
        return [0]
    return [1, 2, found[0], found[1]]


# A row as far as it can be made. refusal is empty, or the whole answer; then
# the numbers aren't to be used.
class Row:
    def __init__(self, refusal, numbers, roots):
        self.refusal = refusal
        self.numbers = numbers
        self.roots = roots


def row_of(p):
    steps = steps_of(p)
    if len(steps) < 1 or len(steps) > MOST_STEPS:
        return Row([-7], [], {})
    wrong = first_wrong(steps)
    if wrong is not None:
        return Row([-1, 1, wrong], [], {})
    return made(steps)


def made(steps):
    numbers = []
    roots = {}
    for k in range(len(steps)):
        refusal = why_it_cannot_be(steps[k], numbers, roots)
        if refusal != 0:
            return Row([refusal, 1, k], numbers, roots)
        numbers.append(number_of(steps[k], numbers, roots))
    return Row([], numbers, roots)


def why_it_cannot_be(step, numbers, roots):
    if step[0] == OVER and sign_of(numbers[step[2]], roots) == 0:
        return -2
    if step[0] == ROOT and sign_of(numbers[step[1]], roots) < 0:
        return -3
    return 0


def number_of(step, numbers, roots):
    op = step[0]
    if op == WHOLE:
        return whole(step[3])
    x = numbers[step[1]]
    if op == ROOT:
        return root(x, roots)
    y = numbers[step[2]]
    if op == PLUS:
        return plus(x, y)
    if op == MINUS:
        return minus(x, y)
    if op == TIMES:
        return times(x, y, roots)
    return over(x, y, roots)
