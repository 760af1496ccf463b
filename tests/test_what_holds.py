"""What holds, point 2 of DOC.md's promises: each sentence by the program's own calls, over drawn weights.

The draws are the same each time, so that a test that fails does so again.
"""

import itertools
import random
import unittest

from rows import alone, members
from weightstogether.sets import forgot, given_of, goes, increasing, mean, over, product, together

MOST = 1000


def multiplied(one, other):
    return [a * b for a, b in zip(one, other)]


def drawn_row(draw, n):
    bound = draw.choice((2, 4, 20, MOST + 1))
    return [draw.randrange(bound) for _ in range(2 ** n)]


def drawn_pairs(draw, things):
    bound = draw.choice((2, 3, 5, 11))
    return [draw.randrange(bound) for _ in range(2 * things)]


def drawn_that_grows(draw, n):
    """Each set is given the most that one within it has."""
    row = drawn_row(draw, n)
    return [max(row[lower] for lower in range(2 ** n) if lower & number == lower) for number in range(2 ** n)]


def drawn_bonds(draw, n):
    """What has all of some things, or none of some, counts some times as much."""
    row = [1] * 2 ** n
    for _ in range(draw.randrange(1, 5)):
        some = members(draw.randrange(2 ** n), n)
        all_of_them = draw.random() < 0.5
        times = draw.randrange(2, 6)
        for number in range(2 ** n):
            has = members(number, n)
            if some <= has if all_of_them else not some & has:
                row[number] *= times
    return row


def drawn_lattice(draw, n):
    """Some sets, and with any two what either has and what both have, count 1, all others 0."""
    chosen = {draw.randrange(2 ** n) for _ in range(draw.randrange(1, 5))}
    while True:
        more = {made for a, b in itertools.product(chosen, repeat=2) for made in (a | b, a & b)}
        if more <= chosen:
            return [1 if number in chosen else 0 for number in range(2 ** n)]
        chosen |= more


def drawn_at_random(draw, n):
    """Any row at all that goes together, which a row of more than three things hardly ever does."""
    while True:
        row = [draw.randrange(6) for _ in range(2 ** n)]
        if together(n, row) == [1]:
            return row


def drawn_together(draw, n, how_many):
    """Weights that go together: the corners, then drawn ones of all kinds, also two kinds multiplied."""
    ones = [1] * 2 ** n
    yield from ([0] * 2 ** n, ones, [MOST] * 2 ** n, alone(n, 0, 1), alone(n, 2 ** n - 1, MOST))
    kinds = [drawn_bonds, drawn_lattice, lambda draw, n: product(drawn_pairs(draw, n))[1:]]
    if n < 4:
        kinds.append(drawn_at_random)
    left = how_many
    while left > 0:
        row = multiplied(draw.choice(kinds)(draw, n), draw.choice(kinds + [lambda draw, n: ones])(draw, n))
        if max(row) <= MOST:
            left -= 1
            yield row


def each_n(how_many, least=1):
    """Things, the source of draws, and weights that go together."""
    for n in range(least, 6):
        draw = random.Random(n)
        for m in drawn_together(draw, n, how_many):
            yield n, draw, m


class WhatHoldsTest(unittest.TestCase):
    def assert_together(self, n, row):
        self.assertEqual(together(n, row), [1], (n, row))

    def assert_no_less_a_mean(self, n, m, k, f):
        by_m, by_k = mean(n, m, f), mean(n, k, f)
        self.assertEqual((by_m[0], by_k[0]), (0, 0))
        self.assertGreaterEqual(by_m[1] * by_k[2], by_k[1] * by_m[2], (n, m, k, f))

    def test_the_draws_are_what_they_are_meant_to_be(self):
        seen = {}
        for n, draw, m in each_n(60):
            self.assert_together(n, m)
            self.assertEqual(increasing(n, drawn_that_grows(draw, n)), [1])
            seen.setdefault(n, set()).add(tuple(m))
        for n, rows in seen.items():
            self.assertGreater(len(rows), 20, n)

    def test_two_that_grow_go_together_or_neither(self):
        answers = set()
        for n, draw, m in each_n(150):
            self.assert_together(n, m)
            for _ in range(4):
                f, g = drawn_that_grows(draw, n), drawn_that_grows(draw, n)
                answer = goes(n, m, f, g)[0]
                self.assertIn(answer, (1, 2), (n, m, f, g))
                answers.add(answer)
        self.assertEqual(answers, {1, 2})

    def test_what_grows_has_no_less_a_mean_by_weights_above_others(self):
        compared = 0
        for n, draw, k in each_n(150):
            # Weights that go together, times what grows, are above them.
            m = multiplied(k, drawn_that_grows(draw, n))
            if max(m) > MOST or not any(m):
                continue
            self.assertEqual(over(n, m, k), [1], (n, m, k))
            for _ in range(4):
                self.assert_no_less_a_mean(n, m, k, drawn_that_grows(draw, n))
                compared += 1
        self.assertGreater(compared, 500)

    def test_what_grows_has_no_less_a_mean_given_a_thing_is_in(self):
        compared = 0
        for n, draw, m in each_n(60):
            for i in range(n):
                inside, outside = given_of(n, i, 1, m)[1:], given_of(n, i, 0, m)[1:]
                if any(inside) and any(outside):
                    self.assertEqual(over(n, inside, outside), [1], (n, i, m))
                    self.assert_no_less_a_mean(n, inside, outside, drawn_that_grows(draw, n))
                    compared += 1
        self.assertGreater(compared, 200)

    def test_what_grows_has_no_less_a_mean_by_any_drawn_weights_above_others(self):
        for n, times in ((1, 2000), (2, 6000)):
            draw = random.Random(n)
            compared = 0
            for _ in range(times):
                m, k = drawn_row(draw, n), drawn_row(draw, n)
                if any(m) and any(k) and over(n, m, k) == [1]:
                    self.assert_no_less_a_mean(n, m, k, drawn_that_grows(draw, n))
                    compared += 1
            self.assertGreater(compared, 100)

    def test_weights_made_thing_by_thing_go_together(self):
        for things in range(1, 6):
            draw = random.Random(things)
            asked = 0
            while asked < 150:
                answer = product(drawn_pairs(draw, things))
                self.assertEqual(answer[0], 2 ** things)
                if max(answer[1:]) <= MOST:
                    self.assert_together(things, answer[1:])
                    asked += 1

    def test_weights_made_of_a_thing_that_counts_0_when_it_is_in_go_together(self):
        for things in range(1, 6):
            for thing in range(things):
                p = [3, 2] * things
                p[2 * thing] = 0
                self.assert_together(things, product(p)[1:])

    def test_given_weights_go_together_still(self):
        for n, draw, m in each_n(100):
            for i, v in itertools.product(range(n), (0, 1)):
                answer = given_of(n, i, v, m)
                self.assertEqual(answer[0], 2 ** n)
                self.assert_together(n, answer[1:])

    def test_forgotten_weights_go_together_still(self):
        asked = 0
        for n, draw, m in each_n(150, least=2):
            for i in range(n):
                answer = forgot(n, i, m)
                self.assertEqual(answer[0], 2 ** (n - 1))
                if max(answer[1:]) <= MOST:
                    self.assert_together(n - 1, answer[1:])
                    asked += 1
        self.assertGreater(asked, 1000)

    def test_one_thing_after_another_given_and_forgotten_they_go_together_still(self):
        for n, draw, m in each_n(100, least=2):
            while n > 1 and max(m) * 2 <= MOST:
                m = given_of(n, draw.randrange(n), draw.randrange(2), m)[1:] if draw.random() < 0.3 else m
                m = forgot(n, draw.randrange(n), m)[1:]
                n -= 1
                self.assert_together(n, m)

    def test_two_multiplied_go_together_still(self):
        for n in range(1, 6):
            draw = random.Random(n)
            rows = list(drawn_together(draw, n, 100))
            asked = 0
            for one, other in itertools.product(rows, rows[::4]):
                both = multiplied(one, other)
                if max(both) <= MOST:
                    self.assert_together(n, both)
                    asked += 1
            self.assertGreater(asked, 500, n)

    def test_given_a_thing_is_in_they_are_above_what_they_are_given_it_is_out(self):
        for n, draw, m in each_n(100):
            for i in range(n):
                self.assertEqual(over(n, given_of(n, i, 1, m)[1:], given_of(n, i, 0, m)[1:]), [1], (n, i, m))

    def test_of_weights_that_do_not_go_together_none_of_it_need_hold(self):
        m = [0, 1, 1, 0]
        self.assertEqual(together(2, m), [0, 1, 2])
        self.assertEqual(goes(2, m, [0, 1, 0, 1], [0, 0, 1, 1])[0], 0)
        self.assertEqual(over(2, given_of(2, 0, 1, m)[1:], given_of(2, 0, 0, m)[1:]), [0, 1, 2])
        three = [0, 1, 1, 0, 0, 0, 0, 0]
        self.assertEqual(together(2, forgot(3, 2, three)[1:]), [0, 1, 2])
        self.assertEqual(together(3, given_of(3, 2, 0, three)[1:]), [0, 1, 2])


if __name__ == "__main__":
    unittest.main()
