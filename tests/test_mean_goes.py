"""The calls mean and goes, held against DOC.md."""

import fractions
import itertools
import math
import unittest

from rows import alone, made_thing_by_thing, members, mixed_rows, rows_of
from weightstogether.sets import goes, increasing, mean, together


def mean_by_fractions(m, f):
    if not any(m):
        return [-6]
    answer = fractions.Fraction(0)
    for weight, number in zip(m, f):
        answer += fractions.Fraction(weight, sum(m)) * number
    return [0, answer.numerator, answer.denominator]


def goes_set_by_set(m, f, g):
    """Each product of two of the sums is gone through set by set, so that no sum is shared with the program."""
    one = other = 0
    for a, b in itertools.product(range(len(m)), repeat=2):
        one += m[a] * m[b] * f[b] * g[b]
        other += m[a] * f[a] * m[b] * g[b]
    return [1 + (one > other) - (one < other), one, other]


def mixed_threes(n, how_many, bound):
    return zip(*[mixed_rows(n, how_many, bound, seed) for seed in (1, 20, 300)])


class MeanTest(unittest.TestCase):
    def test_a_whole_number(self):
        self.assertEqual(mean(1, [1, 1], [2, 4]), [0, 3, 1])
        self.assertEqual(mean(2, [1, 2, 3, 4], [10, 5, 10, 15]), [0, 11, 1])
        self.assertEqual(mean(2, [0, 3, 0, 3], [1000, 7, 1000, 7]), [0, 7, 1])

    def test_not_a_whole_number_with_nothing_in_common(self):
        self.assertEqual(mean(1, [1, 1], [0, 1]), [0, 1, 2])
        self.assertEqual(mean(1, [2, 4], [3, 0]), [0, 1, 1])
        self.assertEqual(mean(1, [2, 4], [0, 1]), [0, 2, 3])
        self.assertEqual(mean(2, [6, 0, 0, 4], [3, 1, 1, 8]), [0, 5, 1])
        self.assertEqual(mean(2, [6, 0, 0, 6], [3, 1, 1, 8]), [0, 11, 2])
        self.assertEqual(mean(2, [1, 2, 3, 4], [4, 3, 2, 1]), [0, 2, 1])
        self.assertEqual(mean(2, [1, 2, 3, 4], [1, 2, 3, 5]), [0, 17, 5])

    def test_weights_and_numbers_do_not_change_places(self):
        self.assertEqual(mean(1, [1, 3], [0, 8]), [0, 6, 1])
        self.assertEqual(mean(1, [0, 8], [1, 3]), [0, 3, 1])

    def test_a_mean_of_0_is_0_1(self):
        self.assertEqual(mean(1, [4, 6], [0, 0]), [0, 0, 1])
        self.assertEqual(mean(1, [0, 6], [5, 0]), [0, 0, 1])
        for n in range(1, 6):
            self.assertEqual(mean(n, [1000] * 2 ** n, [0] * 2 ** n), [0, 0, 1])

    def test_all_weights_0_are_refused(self):
        for n in range(1, 6):
            for number in (0, 1, 1000):
                self.assertEqual(mean(n, [0] * 2 ** n, [number] * 2 ** n), [-6])

    def test_all_weights_0_and_something_not_as_told(self):
        self.assertEqual(mean(1, [0, 0], [0, 1001]), [-22])
        self.assertEqual(mean(1, [0, 0], [0]), [-22])
        self.assertEqual(mean(1, [0, 0], []), [-22])
        self.assertEqual(mean(1, [0, 0, 0], [0, 0]), [-22])
        self.assertEqual(mean(1, [], [0, 0]), [-22])
        self.assertEqual(mean(0, [0], [0]), [-22])
        self.assertEqual(mean(6, [0] * 32, [0] * 32), [-22])

    def test_one_set_alone(self):
        for n in range(1, 6):
            row = [7 * number + 3 for number in range(2 ** n)]
            for number, weight in itertools.product(range(2 ** n), (1, 6, 1000)):
                self.assertEqual(mean(n, alone(n, number, weight), row), [0, row[number], 1])

    def test_weights_that_are_all_one(self):
        for n in range(1, 6):
            sizes = [len(members(number, n)) for number in range(2 ** n)]
            self.assertEqual(mean(n, [1] * 2 ** n, sizes), [0, n // 2, 1] if n % 2 == 0 else [0, n, 2])

    def test_numbers_that_grow_not_at_all_are_their_own_mean(self):
        for n, number in itertools.product(range(1, 6), (1, 6, 1000)):
            for m in mixed_rows(n, 5, 1001):
                self.assertEqual(mean(n, m, [number] * 2 ** n), [0, number, 1])

    def test_as_great_as_1000(self):
        for n in range(1, 6):
            self.assertEqual(mean(n, [1000] * 2 ** n, [1000] * 2 ** n), [0, 1000, 1])
        self.assertEqual(mean(1, [1000, 999], [1000, 999]), [0, 1998001, 1999])
        self.assertEqual(mean(5, [1000] * 31 + [999], [1000] * 31 + [999]), [0, 31998001, 31999])

    def test_small_rows_against_the_words(self):
        for m, f in itertools.product(rows_of(1, range(7)), repeat=2):
            self.assertEqual(mean(1, m, f), mean_by_fractions(m, f), (m, f))
        for m, f in itertools.product(rows_of(2, range(3)), repeat=2):
            self.assertEqual(mean(2, m, f), mean_by_fractions(m, f), (m, f))

    def test_mixed_rows_against_the_words(self):
        for n, bound in itertools.product(range(1, 6), (2, 13, 1001)):
            for m, f, g in mixed_threes(n, 30, bound):
                self.assertEqual(mean(n, m, f), mean_by_fractions(m, f), (m, f))

    def test_the_two_numbers_have_nothing_in_common(self):
        for n in range(1, 6):
            for m, f, g in mixed_threes(n, 30, 1001):
                answer = mean(n, m, f)
                self.assertEqual(answer[0], 0)
                self.assertEqual(math.gcd(answer[1], answer[2]), 1)


class GoesTest(unittest.TestCase):
    def test_together_is_2_and_two_numbers(self):
        self.assertEqual(goes(1, [1, 1], [0, 1], [0, 1]), [2, 2, 1])
        self.assertEqual(goes(2, [1, 0, 0, 1], [0, 1, 0, 1], [0, 0, 1, 1]), [2, 2, 1])
        self.assertEqual(goes(2, [1, 2, 3, 4], [1, 2, 3, 4], [0, 1, 1, 5]), [2, 930, 750])

    def test_neither_is_1_and_two_numbers(self):
        self.assertEqual(goes(2, [1, 1, 1, 1], [0, 1, 0, 1], [0, 0, 1, 1]), [1, 4, 4])
        self.assertEqual(goes(2, [1, 2, 3, 6], [0, 1, 0, 1], [0, 0, 1, 1]), [1, 72, 72])
        self.assertEqual(goes(1, [2, 3], [0, 0], [1, 9]), [1, 0, 0])

    def test_against_is_0_and_two_numbers(self):
        self.assertEqual(goes(1, [1, 1], [0, 1], [1, 0]), [0, 0, 1])
        self.assertEqual(goes(2, [0, 1, 1, 0], [0, 1, 0, 1], [0, 0, 1, 1]), [0, 0, 1])
        self.assertEqual(goes(2, [1, 2, 2, 1], [0, 1, 0, 1], [0, 0, 1, 1]), [0, 6, 9])

    def test_one_more_or_less_turns_it(self):
        f, g = [0, 1, 0, 1], [0, 0, 1, 1]
        self.assertEqual(goes(2, [4, 6, 6, 9], f, g), [1, 225, 225])
        self.assertEqual(goes(2, [5, 6, 6, 7], f, g), [0, 168, 169])
        self.assertEqual(goes(2, [5, 7, 7, 10], f, g), [2, 290, 289])

    def test_all_weights_0_are_neither(self):
        for n in range(1, 6):
            for f, g in ([0, 0], [1, 1], [0, 1000], [1000, 1000]):
                self.assertEqual(goes(n, [0] * 2 ** n, [f] * 2 ** n, [g] * 2 ** n), [1, 0, 0])
            sizes = [len(members(number, n)) for number in range(2 ** n)]
            self.assertEqual(goes(n, [0] * 2 ** n, sizes, sizes), [1, 0, 0])

    def test_one_set_alone_is_neither(self):
        for n in range(1, 6):
            f = [7 * number + 3 for number in range(2 ** n)]
            g = [1000 - 9 * number for number in range(2 ** n)]
            for number, weight in itertools.product(range(2 ** n), (1, 6, 1000)):
                product = weight * weight * f[number] * g[number]
                self.assertEqual(goes(n, alone(n, number, weight), f, g), [1, product, product])

    def test_weights_that_are_all_one(self):
        for n in range(1, 6):
            sizes = [len(members(number, n)) for number in range(2 ** n)]
            holes = [n - size for size in sizes]
            squares = n * (n + 1) * 2 ** n // 4
            half = n * 2 ** n // 2
            self.assertEqual(goes(n, [1] * 2 ** n, sizes, sizes), [2, 2 ** n * squares, half * half])
            self.assertEqual(goes(n, [1] * 2 ** n, sizes, holes), [0, 2 ** n * (n * half - squares), half * half])

    def test_numbers_that_grow_not_at_all_are_neither(self):
        for n, number in itertools.product(range(1, 6), (0, 1, 1000)):
            for m, f, g in mixed_threes(n, 5, 1001):
                even = [number] * 2 ** n
                self.assertEqual(goes(n, m, even, g)[0], 1)
                self.assertEqual(goes(n, m, f, even)[0], 1)

    def test_as_great_as_1000(self):
        for n in range(1, 6):
            product = 4 ** n * 1000 ** 4
            self.assertEqual(goes(n, [1000] * 2 ** n, [1000] * 2 ** n, [1000] * 2 ** n), [1, product, product])
        self.assertEqual(goes(1, [1000, 1000], [999, 1000], [999, 1000]), [2, 3996002000000, 3996001000000])
        self.assertEqual(goes(1, [1000, 1000], [999, 1000], [1000, 999]), [0, 3996000000000, 3996001000000])

    def test_small_rows_against_the_words(self):
        for m, f, g in itertools.product(rows_of(1, range(4)), repeat=3):
            self.assertEqual(goes(1, m, f, g), goes_set_by_set(m, f, g), (m, f, g))
        for m, f, g in itertools.product(rows_of(2, range(2)), repeat=3):
            self.assertEqual(goes(2, m, f, g), goes_set_by_set(m, f, g), (m, f, g))

    def test_mixed_rows_against_the_words(self):
        for n, bound in itertools.product(range(1, 6), (2, 13, 1001)):
            for m, f, g in mixed_threes(n, 10, bound):
                self.assertEqual(goes(n, m, f, g), goes_set_by_set(m, f, g), (m, f, g))

    def test_f_and_g_may_change_places_and_m_may_not(self):
        for m, f, g in mixed_threes(3, 20, 1001):
            self.assertEqual(goes(3, m, f, g), goes(3, m, g, f))
        self.assertEqual(goes(1, [1, 2], [0, 1], [1, 1]), [1, 6, 6])
        self.assertEqual(goes(1, [0, 1], [1, 2], [1, 1]), [1, 2, 2])

    def test_it_is_told_by_the_means(self):
        # The mean of both multiplied, held against the two means multiplied.
        for m, f, g in mixed_threes(2, 50, 10):
            both = fractions.Fraction(*mean(2, m, [a * b for a, b in zip(f, g)])[1:])
            apart = fractions.Fraction(*mean(2, m, f)[1:]) * fractions.Fraction(*mean(2, m, g)[1:])
            self.assertEqual(goes(2, m, f, g)[0], 1 + (both > apart) - (both < apart))

    def test_what_grows_is_not_against_by_weights_that_go_together(self):
        good = [m for m in rows_of(2, range(4)) if together(2, m) == [1]]
        grown = [f for f in rows_of(2, range(3)) if increasing(2, f) == [1]]
        for m, f, g in itertools.product(good, grown, grown):
            self.assertGreaterEqual(goes(2, m, f, g)[0], 1, (m, f, g))
        sizes = [len(members(number, 5)) for number in range(32)]
        tops = [1 if number == 31 else 0 for number in range(32)]
        for pairs in ([(2, 1)] * 5, [(0, 3), (1, 2), (3, 1), (2, 2), (1, 1)]):
            self.assertGreaterEqual(goes(5, made_thing_by_thing(pairs), sizes, tops)[0], 1)


if __name__ == "__main__":
    unittest.main()
