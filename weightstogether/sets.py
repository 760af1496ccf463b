"""Weights of sets of things. A set is told as a number: thing v counts 2 to the power of v."""

MOST_THINGS = 5
MOST_WEIGHT = 1000
NOT_AS_TOLD = -22


def are_weights(n, row):
    # n may be as great as 4294967295, so it is held to its bounds before a shift by it is made.
    if n < 1 or n > MOST_THINGS:
        return False
    if len(row) != 1 << n:
        return False
    return all([weight <= MOST_WEIGHT for weight in row])


def together(n, m):
    if not are_weights(n, m):
        return [NOT_AS_TOLD]
    for first in range(len(m)):
        for second in range(len(m)):
            if m[first] * m[second] > m[first | second] * m[first & second]:
                return [0, first, second]
    return [1]


def increasing(n, f):
    if not are_weights(n, f):
        return [NOT_AS_TOLD]
    for lower in range(len(f)):
        for thing in range(n):
            # A set that has the thing already is held against itself, which is never less.
            if f[lower | 1 << thing] < f[lower]:
                return [0]
    return [1]
