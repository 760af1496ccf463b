"""The calls together and increasing, held against DOC.md."""

import itertools
import unittest

from rows import alone, made_thing_by_thing, members, mixed_rows, small_rows, weight_by_members
from weightstogether.sets import increasing, together


def together_by_members(n, row):
    weight = weight_by_members(n, row)
    for first, second in itertools.product(range(2 ** n), repeat=2):
        a, b = members(first, n), members(second, n)
        if weight[a] * weight[b] > weight[a | b] * weight[a & b]:
            return [0, first, second]
    return [1]


def increasing_by_members(n, row):
    weight = weight_by_members(n, row)
    for lower, upper in itertools.product(weight, repeat=2):
        if lower < upper and len(upper) == len(lower) + 1 and weight[upper] < weight[lower]:
            return [0]
    return [1]


class TogetherTest(unittest.TestCase):
    def test_weights_that_go_together_answer_1_alone(self):
        self.assertEqual(together(2, [1, 1, 1, 1]), [1])
        self.assertEqual(together(2, [2, 3, 4, 6]), [1])
        self.assertEqual(together(2, [1, 0, 0, 1]), [1])
        self.assertEqual(together(3, [8, 4, 4, 4, 4, 4, 4, 8]), [1])

    def test_weights_that_do_not_answer_0_and_two_sets(self):
        self.assertEqual(together(2, [0, 1, 1, 0]), [0, 1, 2])
        self.assertEqual(together(2, [2, 3, 4, 5]), [0, 1, 2])
        self.assertEqual(together(3, [1, 1, 1, 1, 1, 1, 1, 0]), [0, 1, 6])
        self.assertEqual(together(3, [0, 0, 0, 1, 0, 1, 0, 1]), [0, 3, 5])

    def test_equal_products_go_together_and_one_more_does_not(self):
        self.assertEqual(together(2, [4, 6, 6, 9]), [1])
        self.assertEqual(together(2, [5, 6, 6, 7]), [0, 1, 2])
        self.assertEqual(together(2, [5, 5, 7, 7]), [1])

    def test_two_sets_are_first_by_the_first_number_then_by_the_second(self):
        # Neither 1 and 6 nor 2 and 4 go together: 1 is less than 2, though 6 is more than 4.
        self.assertEqual(together(3, [1, 1, 2, 2, 2, 2, 1, 0]), [0, 1, 6])
        # Of 1 and 2, 1 and 4, 1 and 6 none goes together.
        self.assertEqual(together(3, [0, 1, 1, 0, 1, 0, 1, 0]), [0, 1, 2])
        self.assertEqual(together(3, [1, 1, 1, 1, 1, 0, 1, 0]), [0, 1, 4])

    def test_last_two_sets_of_five_things(self):
        row = [0] * 32
        row[23] = row[15] = 1
        self.assertEqual(together(5, row), [0, 15, 23])
        row = [1] * 32
        row[31] = 0
        self.assertEqual(together(5, row), [0, 1, 30])

    def test_one_thing_always_goes_together(self):
        for row in itertools.product((0, 1, 7, 1000), repeat=2):
            self.assertEqual(together(1, list(row)), [1])

    def test_corners(self):
        for n in range(1, 6):
            with self.subTest(n=n):
                for weight in (0, 1, 1000):
                    self.assertEqual(together(n, [weight] * 2 ** n), [1])
                for number in range(2 ** n):
                    self.assertEqual(together(n, alone(n, number, 1000)), [1])

    def test_as_great_as_1000(self):
        self.assertEqual(together(2, [1000, 1000, 1000, 999]), [0, 1, 2])
        self.assertEqual(together(2, [1000, 999, 1000, 999]), [1])
        self.assertEqual(together(2, [999, 1000, 999, 1000]), [1])

    def test_weights_made_thing_by_thing_go_together(self):
        for pairs in ([(0, 3), (2, 1)], [(1, 2), (0, 1), (3, 3)], [(2, 1)] * 5, [(1, 3), (2, 1), (1, 1), (3, 2)]):
            self.assertEqual(together(len(pairs), made_thing_by_thing(pairs)), [1])

    def test_two_that_go_together_multiplied_go_together(self):
        good = [row for n, row in small_rows() if n == 2 and together(n, row) == [1]]
        for one, other in itertools.product(good[::5], good[::7]):
            self.assertEqual(together(2, [a * b for a, b in zip(one, other)]), [1])

    def test_small_rows_against_the_words(self):
        for n, row in small_rows():
            self.assertEqual(together(n, row), together_by_members(n, row), (n, row))

    def test_mixed_rows_against_the_words(self):
        for n in (4, 5):
            for bound in (2, 4, 1001):
                for row in mixed_rows(n, 20, bound):
                    self.assertEqual(together(n, row), together_by_members(n, row), (n, row))

    def test_one_spoilt_weight_against_the_words(self):
        whole = made_thing_by_thing([(2, 1), (1, 2), (3, 1), (1, 1), (2, 3)])
        for spoilt in range(32):
            for weight in (0, 1000):
                row = list(whole)
                row[spoilt] = weight
                self.assertEqual(together(5, row), together_by_members(5, row), row)


class IncreasingTest(unittest.TestCase):
    def test_numbers_that_grow_answer_1_alone(self):
        self.assertEqual(increasing(1, [0, 1]), [1])
        self.assertEqual(increasing(2, [0, 5, 3, 8]), [1])
        self.assertEqual(increasing(3, [0, 1, 1, 2, 1, 2, 2, 3]), [1])
        self.assertEqual(increasing(5, [len(members(s, 5)) for s in range(32)]), [1])

    def test_numbers_that_do_not_answer_0_alone(self):
        self.assertEqual(increasing(1, [1, 0]), [0])
        self.assertEqual(increasing(2, [0, 5, 3, 4]), [0])
        self.assertEqual(increasing(2, [0, 3, 5, 4]), [0])
        self.assertEqual(increasing(3, [1, 1, 1, 1, 1, 1, 1, 0]), [0])

    def test_every_single_fall_is_seen(self):
        for n in range(1, 6):
            for lower, v in itertools.product(range(2 ** n), range(n)):
                if v in members(lower, n):
                    continue
                # What has all of lower weighs 2, and one set just above it weighs 1.
                row = [2 if members(lower, n) <= members(s, n) else 0 for s in range(2 ** n)]
                self.assertEqual(increasing(n, row), [1])
                row[lower + 2 ** v] = 1
                self.assertEqual(increasing(n, row), [0], (n, row))

    def test_numbers_that_grow_not_at_all(self):
        for n in range(1, 6):
            for weight in (0, 1, 1000):
                self.assertEqual(increasing(n, [weight] * 2 ** n), [1])

    def test_one_set_alone(self):
        for n in range(1, 6):
            for number in range(2 ** n):
                self.assertEqual(increasing(n, alone(n, number, 1)), [1 if number == 2 ** n - 1 else 0])

    def test_as_great_as_1000(self):
        self.assertEqual(increasing(1, [999, 1000]), [1])
        self.assertEqual(increasing(1, [1000, 999]), [0])
        self.assertEqual(increasing(5, [0] * 31 + [1000]), [1])

    def test_small_rows_against_the_words(self):
        for n, row in small_rows():
            self.assertEqual(increasing(n, row), increasing_by_members(n, row), (n, row))

    def test_mixed_rows_against_the_words(self):
        for n in (4, 5):
            for row in mixed_rows(n, 20, 1001):
                self.assertEqual(increasing(n, row), increasing_by_members(n, row), (n, row))


if __name__ == "__main__":
    unittest.main()
