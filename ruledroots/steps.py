"""What a row of steps is told by, and which step of it is told wrong.

A step is a list of its four whole numbers: op, a, b, v.
"""

WHOLE = 0
PLUS = 1
MINUS = 2
TIMES = 3
OVER = 4
ROOT = 5

MOST_STEPS = 32
MOST_ROOTS = 3
MOST_WEIGHT = 256
WHOLE_WEIGHT = 32
VALUE_LIMIT = 2147483648


def steps_of(p):
    return [p[4 * k:4 * k + 4] for k in range(len(p) // 4)]


# None says that no step is told wrong. A step is only weighed when its fields
# are right, so the weights that it looks up are there.
def first_wrong(steps):
    weights = []
    roots = 0
    for k in range(len(steps)):
        step = steps[k]
        if fields_wrong(step, k):
            return k
        if step[0] == ROOT:
            roots += 1
        weight = weight_of(step, weights)
        if roots > MOST_ROOTS or weight > MOST_WEIGHT:
            return k
        weights.append(weight)
    return None


def fields_wrong(step, k):
    op = step[0]
    a = step[1]
    b = step[2]
    v = step[3]
    if op > ROOT:
        return True
    if op == WHOLE:
        return a != 0 or b != 0 or v < -VALUE_LIMIT or v >= VALUE_LIMIT
    if v != 0 or a >= k:
        return True
    if op == ROOT:
        return b != 0
    return b >= k


def weight_of(step, weights):
    op = step[0]
    if op == WHOLE:
        return WHOLE_WEIGHT
    if op == ROOT:
        return weights[step[1]]
    both = weights[step[1]] + weights[step[2]]
    if op == PLUS or op == MINUS:
        return both + 1
    return both
