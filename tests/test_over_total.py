"""The calls over and total, held against DOC.md."""

import fractions
import itertools
import unittest

from rows import GREATEST, Untouchable, alone, made_thing_by_thing, members, mixed_rows, rows_of, weight_by_members
from weightstogether.sets import increasing, mean, over, together, total


def over_by_members(n, m, k):
    one, other = weight_by_members(n, m), weight_by_members(n, k)
    for first, second in itertools.product(range(2 ** n), repeat=2):
        a, b = members(first, n), members(second, n)
        if one[a] * other[b] > one[a | b] * other[a & b]:
            return [0, first, second]
    return [1]


def families(n):
    for chosen in itertools.product((False, True), repeat=2 ** n):
        yield [number for number in range(2 ** n) if chosen[number]]


def mixed_families(n, how_many):
    for row in mixed_rows(n, how_many, 2):
        yield [number for number in range(2 ** n) if row[number]]


class OverTest(unittest.TestCase):
    def test_weights_above_others_answer_1_alone(self):
        self.assertEqual(over(1, [1, 2], [2, 1]), [1])
        self.assertEqual(over(1, [1, 1], [1, 1]), [1])
        self.assertEqual(over(2, [1, 2, 3, 6], [1, 1, 1, 1]), [1])
        self.assertEqual(over(2, [0, 0, 0, 1], [5, 7, 0, 9]), [1])
        self.assertEqual(over(2, [0, 1, 0, 3], [3, 0, 1, 0]), [1])

    def test_weights_that_are_not_answer_0_and_two_sets(self):
        self.assertEqual(over(1, [2, 1], [1, 2]), [0, 0, 1])
        self.assertEqual(over(2, [1, 1, 1, 1], [1, 2, 3, 6]), [0, 0, 1])
        self.assertEqual(over(2, [1, 1, 1, 1], [1, 1, 1, 2]), [0, 0, 3])
        self.assertEqual(over(2, [1, 1, 1, 0], [1, 1, 1, 0]), [0, 1, 2])

    def test_m_above_k_holds_and_k_above_m_does_not(self):
        for n, m, k in ((1, [1, 2], [2, 1]), (1, [0, 1], [1, 0]), (1, [999, 1000], [1000, 999]),
                        (2, [1, 2, 3, 6], [1, 1, 1, 1]), (2, [0, 0, 0, 1], [1, 1, 1, 1])):
            self.assertEqual(over(n, m, k), [1])
            self.assertEqual(over(n, k, m)[0], 0)
        self.assertEqual(over(2, [1, 1, 1, 1], [0, 0, 0, 1]), [0, 0, 3])
        self.assertEqual(over(1, [1000, 999], [999, 1000]), [0, 0, 1])

    def test_two_sets_may_be_told_with_the_greater_first(self):
        # Of 1 and 2 it is so, of 2 and 1 it isn't.
        self.assertEqual(over(2, [0, 0, 1, 1], [0, 1, 1, 1]), [0, 2, 1])
        self.assertEqual(over(2, [0, 0, 1, 0], [0, 1, 0, 0]), [0, 2, 1])
        self.assertEqual(over(3, alone(3, 6, 1), alone(3, 1, 1)), [0, 6, 1])

    def test_two_sets_are_first_by_the_first_number_then_by_the_second(self):
        # Neither of 0 and 3 nor of 1 and 2 it is so: 0 is less than 1, though 3 is more than 2.
        self.assertEqual(over(2, [1, 2, 2, 1], [1, 1, 1, 2]), [0, 0, 3])
        # Of 1 it isn't so with 2, with 4 and with 6.
        self.assertEqual(over(3, alone(3, 1, 1), [0, 0, 1, 0, 1, 0, 1, 0]), [0, 1, 2])
        self.assertEqual(over(3, alone(3, 1, 1), [0, 0, 0, 0, 1, 0, 1, 0]), [0, 1, 4])
        # Of 1 and 6 it isn't so, nor of 2 and 1: 1 is less than 2, though 6 is more than 1.
        self.assertEqual(over(3, [0, 1, 1, 0, 0, 0, 0, 0], [0, 1, 0, 0, 0, 0, 1, 0]), [0, 1, 6])

    def test_equal_products_are_above_and_one_more_is_not(self):
        self.assertEqual(over(1, [2, 3], [4, 6]), [1])
        self.assertEqual(over(1, [2, 3], [4, 7]), [0, 0, 1])
        self.assertEqual(over(1, [3, 4], [4, 6]), [0, 0, 1])
        self.assertEqual(over(1, [2, 3], [5, 6]), [1])

    def test_corners_of_all_weights_0(self):
        for n in range(1, 6):
            nothing = [0] * 2 ** n
            for row in [nothing, [1] * 2 ** n, [1000] * 2 ** n] + list(mixed_rows(n, 3, 1001)):
                self.assertEqual(over(n, nothing, row), [1])
                self.assertEqual(over(n, row, nothing), [1])

    def test_one_set_alone(self):
        for n in range(1, 6):
            for first, second in itertools.product(range(2 ** n), repeat=2):
                # What is alone in both is above if the one has all that the other has.
                expected = [1] if members(second, n) <= members(first, n) else [0, first, second]
                self.assertEqual(over(n, alone(n, first, 1000), alone(n, second, 1)), expected)

    def test_weights_that_are_all_one(self):
        for n in range(1, 6):
            ones, row = [1] * 2 ** n, [2] + [1] * (2 ** n - 1)
            self.assertEqual(over(n, ones, ones), [1])
            self.assertEqual(over(n, [1000] * 2 ** n, ones), [1])
            self.assertEqual(over(n, ones, row), [1])
            self.assertEqual(over(n, row, ones), [0, 0, 1])
            self.assertEqual(over(n, ones, alone(n, 2 ** n - 1, 1)), [0, 0, 2 ** n - 1])

    def test_as_great_as_1000(self):
        self.assertEqual(over(1, [999, 1000], [1000, 1000]), [1])
        self.assertEqual(over(1, [1000, 1000], [1000, 999]), [1])
        self.assertEqual(over(1, [1000, 999], [1000, 1000]), [0, 0, 1])
        self.assertEqual(over(5, [1000] * 32, [1000] * 32), [1])
        self.assertEqual(over(5, [1000] * 31 + [999], [1000] * 32), [0, 0, 31])
        # What k has of the set of all things is held against itself alone, or stands on the side that's no more.
        self.assertEqual(over(5, [1000] * 32, [1000] * 31 + [999]), [1])

    def test_small_rows_against_the_words(self):
        for m, k in itertools.product(rows_of(1, range(6)), repeat=2):
            self.assertEqual(over(1, m, k), over_by_members(1, m, k), (m, k))
        for m, k in itertools.product(rows_of(2, range(3)), repeat=2):
            self.assertEqual(over(2, m, k), over_by_members(2, m, k), (m, k))
        for m, k in itertools.product(rows_of(3, range(2)), repeat=2):
            self.assertEqual(over(3, m, k), over_by_members(3, m, k), (m, k))

    def test_mixed_rows_against_the_words(self):
        for n, bound in itertools.product((3, 4, 5), (2, 4, 1001)):
            for m, k in zip(mixed_rows(n, 20, bound), mixed_rows(n, 20, bound, 67)):
                self.assertEqual(over(n, m, k), over_by_members(n, m, k), (n, m, k))

    def test_one_spoilt_weight_against_the_words(self):
        m = made_thing_by_thing([(2, 1), (1, 2), (3, 1), (1, 1), (2, 2)])
        k = made_thing_by_thing([(1, 1), (1, 3), (2, 1), (1, 1), (1, 2)])
        self.assertEqual(over(5, m, k), [1])
        for spoilt, weight in itertools.product(range(32), (0, 1000)):
            one, other = list(m), list(k)
            one[spoilt] = other[spoilt] = weight
            self.assertEqual(over(5, one, k), over_by_members(5, one, k), one)
            self.assertEqual(over(5, m, other), over_by_members(5, m, other), other)

    def test_above_themselves_are_those_that_go_together(self):
        for row in rows_of(3, range(2)) + list(mixed_rows(3, 50, 4)):
            self.assertEqual(over(3, row, row), together(3, row))

    def test_what_grows_has_no_less_a_mean_by_weights_above_others(self):
        grown = [f for f in rows_of(2, range(3)) if increasing(2, f) == [1]]
        rows = [row for row in rows_of(2, range(3)) if any(row)]
        for m, k in itertools.product(rows, repeat=2):
            if over(2, m, k) == [1]:
                for f in grown:
                    by_m, by_k = fractions.Fraction(*mean(2, m, f)[1:]), fractions.Fraction(*mean(2, k, f)[1:])
                    self.assertGreaterEqual(by_m, by_k, (m, k, f))


class TotalTest(unittest.TestCase):
    def test_a_family_of_no_sets_weighs_0(self):
        for n in range(1, 6):
            for row in mixed_rows(n, 3, 1001):
                self.assertEqual(total(n, row, []), [0])

    def test_a_family_of_one_set(self):
        for n in range(1, 6):
            for row in mixed_rows(n, 3, 1001):
                for number in range(2 ** n):
                    self.assertEqual(total(n, row, [number]), [row[number]])

    def test_a_family_of_all_sets(self):
        self.assertEqual(total(2, [1, 20, 300, 4], [0, 1, 2, 3]), [325])
        for n in range(1, 6):
            for row in mixed_rows(n, 3, 1001):
                self.assertEqual(total(n, row, list(range(2 ** n))), [sum(row)])

    def test_some_sets(self):
        self.assertEqual(total(2, [1, 20, 300, 4], [0, 3]), [5])
        self.assertEqual(total(2, [1, 20, 300, 4], [1, 2]), [320])
        self.assertEqual(total(3, [1, 2, 4, 8, 16, 32, 64, 128], [0, 2, 5, 7]), [165])

    def test_corners(self):
        for n in range(1, 6):
            for x in mixed_families(n, 10):
                self.assertEqual(total(n, [0] * 2 ** n, x), [0])
                self.assertEqual(total(n, [1] * 2 ** n, x), [len(x)])
                self.assertEqual(total(n, [1000] * 2 ** n, x), [1000 * len(x)])
                for number in range(2 ** n):
                    self.assertEqual(total(n, alone(n, number, 1000), x), [1000 if number in x else 0])
            self.assertEqual(total(n, [1000] * 2 ** n, list(range(2 ** n))), [1000 * 2 ** n])

    def test_every_family_of_up_to_three_things(self):
        for n in range(1, 4):
            row = [3 ** number % 1001 for number in range(2 ** n)]
            for x in families(n):
                self.assertEqual(total(n, row, x), [sum(row[number] for number in x)])

    def test_mixed_families(self):
        for n in (4, 5):
            for row, x in zip(mixed_rows(n, 30, 1001, 5), mixed_families(n, 30)):
                self.assertEqual(total(n, row, x), [sum(row[number] for number in x)])

    def test_a_number_that_is_no_set_is_refused(self):
        for n in range(1, 6):
            for number in (2 ** n, 2 ** n + 1, 2 ** (n + 1), 40, GREATEST):
                for before in ([], [0], [2 ** n - 1], list(range(2 ** n))):
                    self.assertEqual(total(n, [1] * 2 ** n, before + [number]), [-22], (n, before, number))
            self.assertEqual(total(n, [1] * 2 ** n, [2 ** n - 1]), [1])
            self.assertEqual(total(n, [1] * 2 ** n, [2 ** n, 0]), [-22])
        self.assertEqual(total(5, [1] * 32, list(range(40))), [-22])

    def test_a_family_that_is_not_rising_is_refused(self):
        for n in range(1, 6):
            for first, second in itertools.combinations(range(2 ** n), 2):
                self.assertEqual(total(n, [1] * 2 ** n, [first, second]), [2])
                self.assertEqual(total(n, [1] * 2 ** n, [second, first]), [-22])
        self.assertEqual(total(2, [1] * 4, [0, 2, 1]), [-22])
        self.assertEqual(total(2, [1] * 4, [1, 0, 2]), [-22])
        self.assertEqual(total(2, [1] * 4, [0, 1, 0]), [-22])
        self.assertEqual(total(3, [1] * 8, [0, 3, 2, 5]), [-22])

    def test_a_set_told_twice_is_refused(self):
        for n in range(1, 6):
            for number in range(2 ** n):
                self.assertEqual(total(n, [1] * 2 ** n, [number, number]), [-22])
                twice = sorted(list(range(2 ** n)) + [number])
                self.assertEqual(total(n, [1] * 2 ** n, twice), [-22])
        self.assertEqual(total(1, [1, 1], [0] * 40), [-22])

    def test_every_short_list_against_the_words(self):
        for length in range(4):
            for x in itertools.product(range(6), repeat=length):
                x = list(x)
                told = x == sorted(frozenset(x)) and all(number < 4 for number in x)
                self.assertEqual(total(2, [1, 20, 300, 4], x),
                                 [sum([1, 20, 300, 4][number] for number in x)] if told else [-22], x)

    def test_several_refusals_are_one_number(self):
        self.assertEqual(total(0, [], [0]), [-22])
        self.assertEqual(total(GREATEST, [GREATEST] * 40, [GREATEST] * 40), [-22])
        self.assertEqual(total(2, [1001] * 4, [1, 0]), [-22])
        self.assertEqual(total(2, [1] * 3, [4]), [-22])

    def test_the_family_is_not_changed_nor_kept(self):
        for x in ([], [2], [0, 1, 3], [3, 1], [1, 1], [4]):
            handed = Untouchable(x)
            self.assertEqual(total(2, Untouchable([1, 20, 300, 4]), handed), total(2, [1, 20, 300, 4], x))
            self.assertEqual(list(handed), x)
        x = [0, 1]
        self.assertEqual(total(2, [1, 20, 300, 4], x), [21])
        x[1] = 3
        self.assertEqual(total(2, [1, 20, 300, 4], x), [5])


if __name__ == "__main__":
    unittest.main()
