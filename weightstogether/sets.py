"""Weights of sets of things. A set is told as a number: thing v counts 2 to the power of v."""

MOST_THINGS = 5
MOST_WEIGHT = 1000
MOST_A_THING_COUNTS = 10
NOT_AS_TOLD = -22
NO_SUCH_THING = -2
ALL_WEIGHTS_0 = -6
NO_THING_LEFT = -33


def are_weights(n, row):
    # n may be as great as 4294967295, so it is held to its bounds before a shift by it is made.
    if n < 1 or n > MOST_THINGS:
        return False
    if len(row) != 1 << n:
        return False
    return all([weight <= MOST_WEIGHT for weight in row])


def is_family(how_many_sets, x):
    # Rising and each once are one thing: each number is above the one ahead of it.
    least = 0
    for number in x:
        if number < least or number >= how_many_sets:
            return False
        least = number + 1
    return True


def are_pairs(p):
    if len(p) < 2 or len(p) > 2 * MOST_THINGS or len(p) % 2 != 0:
        return False
    return all([number <= MOST_A_THING_COUNTS for number in p])


def weighed(m, row):
    return sum([weight * number for weight, number in zip(m, row)])


def greatest_in_common(one, other):
    while other > 0:
        rest = one % other
        one = other
        other = rest
    return one


def held_above(m, k):
    for first in range(len(m)):
        for second in range(len(m)):
            if m[first] * k[second] > m[first | second] * k[first & second]:
                return [0, first, second]
    return [1]


def together(n, m):
    if not are_weights(n, m):
        return [NOT_AS_TOLD]
    # Weights go together just if they are above themselves.
    return held_above(m, m)


def increasing(n, f):
    if not are_weights(n, f):
        return [NOT_AS_TOLD]
    for lower in range(len(f)):
        for thing in range(n):
            # A set that has the thing already is held against itself, which is never less.
            if f[lower | 1 << thing] < f[lower]:
                return [0]
    return [1]


def mean(n, m, f):
    if not are_weights(n, m) or not are_weights(n, f):
        return [NOT_AS_TOLD]
    all_weights = sum(m)
    if all_weights == 0:
        return [ALL_WEIGHTS_0]
    all_weighed = weighed(m, f)
    # Of 0 and all weights these are all that's in common, so that a mean of 0 comes out as 0 1.
    common = greatest_in_common(all_weighed, all_weights)
    return [0, all_weighed // common, all_weights // common]


def goes(n, m, f, g):
    if not are_weights(n, m) or not are_weights(n, f) or not are_weights(n, g):
        return [NOT_AS_TOLD]
    both = [one * other for one, other in zip(f, g)]
    at_once = sum(m) * weighed(m, both)
    apart = weighed(m, f) * weighed(m, g)
    if at_once > apart:
        return [2, at_once, apart]
    if at_once == apart:
        return [1, at_once, apart]
    return [0, at_once, apart]


def over(n, m, k):
    if not are_weights(n, m) or not are_weights(n, k):
        return [NOT_AS_TOLD]
    return held_above(m, k)


def total(n, m, x):
    if not are_weights(n, m) or not is_family(len(m), x):
        return [NOT_AS_TOLD]
    return [sum([m[number] for number in x])]


def product(p):
    if not are_pairs(p):
        return [NOT_AS_TOLD]
    weights = [1]
    for place in range(0, len(p), 2):
        with_it = [weight * p[place] for weight in weights]
        without_it = [weight * p[place + 1] for weight in weights]
        # A thing counts more than all things ahead of it together, so the sets that have it come last.
        weights = without_it + with_it
    return [len(weights)] + weights


def given_of(n, i, v, m):
    if not are_weights(n, m):
        return [NOT_AS_TOLD]
    # Held to its bounds ahead of v, which is told later, and before a shift by it is made.
    if i >= n:
        return [NO_SUCH_THING]
    if v > 1:
        return [NOT_AS_TOLD]
    weights = [weight if (number >> i) & 1 == v else 0 for number, weight in enumerate(m)]
    return [len(weights)] + weights


def forgot(n, i, m):
    if not are_weights(n, m):
        return [NOT_AS_TOLD]
    if i >= n:
        return [NO_SUCH_THING]
    # Told last, so that of one thing it is answered only where the thing to be forgotten is that one.
    if n == 1:
        return [NO_THING_LEFT]
    # With the things behind i numbered one less, the sets without it stay in the order that they had.
    weights = [m[number] + m[number | 1 << i] for number in range(len(m)) if (number >> i) & 1 == 0]
    return [len(weights)] + weights
