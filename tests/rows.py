"""Rows of weights for the tests, and sets told by their members."""

import itertools

GREATEST = 4294967295


class Untouchable(list):
    """A list that may be read only: a change, even one that is undone again, is an error."""

    def refuse(self, *arguments, **keywords):
        raise AssertionError("what was handed in was changed")

    append = clear = extend = insert = pop = remove = reverse = sort = refuse
    __setitem__ = __delitem__ = __iadd__ = __imul__ = refuse


def members(number, n):
    return frozenset(v for v in range(n) if (number // 2 ** v) % 2)


def weight_by_members(n, row):
    return {members(number, n): weight for number, weight in enumerate(row)}


def alone(n, number, weight):
    """One set alone has a weight above 0."""
    return [weight if place == number else 0 for place in range(2 ** n)]


def mixed_rows(n, how_many, bound, seed=12345):
    """Rows that look mixed but are the same each time."""
    state = seed + n
    for _ in range(how_many):
        row = []
        for _ in range(2 ** n):
            state = (state * 1103515245 + 12345) % 2 ** 31
            row.append((state >> 16) % bound)
        yield row


def made_thing_by_thing(pairs):
    row = []
    for number in range(2 ** len(pairs)):
        weight = 1
        for v, (inside, outside) in enumerate(pairs):
            weight *= inside if v in members(number, len(pairs)) else outside
        row.append(weight)
    return row


def rows_of(n, numbers):
    return [list(row) for row in itertools.product(numbers, repeat=2 ** n)]


def small_rows():
    for n, numbers in ((1, (0, 1, 2, 999, 1000)), (2, range(5)), (3, range(3))):
        for row in rows_of(n, numbers):
            yield n, row
