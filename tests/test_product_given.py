"""The calls product and given_of, held against DOC.md."""

import itertools
import unittest

from rows import GREATEST, Untouchable, alone, made_thing_by_thing, members, mixed_rows, rows_of
from weightstogether.sets import given_of, product, together


def pairs_of(p):
    return list(zip(p[::2], p[1::2]))


def mixed_pairs(things, how_many, seed=7):
    """Two numbers from 0 to 10 for each thing, cut out of rows of 16."""
    for row in mixed_rows(4, how_many, 11, seed + things):
        yield row[:2 * things]


def given_by_members(n, i, v, m):
    weights = list(m)
    for number in range(2 ** n):
        if (v == 0 and i in members(number, n)) or (v == 1 and i not in members(number, n)):
            weights[number] = 0
    return [2 ** n] + weights


class ProductTest(unittest.TestCase):
    def test_of_one_thing_the_second_number_comes_first(self):
        self.assertEqual(product([3, 2]), [2, 2, 3])
        self.assertEqual(product([0, 10]), [2, 10, 0])
        self.assertEqual(product([10, 0]), [2, 0, 10])

    def test_of_each_thing_both_numbers_stand_side_by_side(self):
        self.assertEqual(product([2, 3, 5, 7]), [4, 21, 14, 15, 10])
        self.assertEqual(product([2, 1, 3, 1, 5, 1]), [8, 1, 2, 3, 6, 5, 10, 15, 30])
        self.assertEqual(product([1, 2, 1, 3, 1, 5]), [8, 30, 15, 10, 5, 6, 3, 2, 1])

    def test_of_four_things(self):
        self.assertEqual(product([2, 1, 3, 1, 5, 1, 7, 1]),
                         [16, 1, 2, 3, 6, 5, 10, 15, 30, 7, 14, 21, 42, 35, 70, 105, 210])

    def test_of_five_things(self):
        # If just one thing counts 2 when it's in, the sets that have it weigh 2 and the others 1.
        for thing in range(5):
            p = [1] * 10
            p[2 * thing] = 2
            self.assertEqual(product(p), [32] + [2 if thing in members(s, 5) else 1 for s in range(32)])
            p = [1] * 10
            p[2 * thing + 1] = 2
            self.assertEqual(product(p), [32] + [1 if thing in members(s, 5) else 2 for s in range(32)])

    def test_how_many_weights_come_first(self):
        for things in range(1, 6):
            for p in mixed_pairs(things, 5):
                answer = product(p)
                self.assertEqual(answer[0], 2 ** things)
                self.assertEqual(len(answer), 1 + 2 ** things)

    def assert_0_for_half(self, counts_0_when_in):
        for things in range(1, 6):
            for thing in range(things):
                p = [3, 2] * things
                p[2 * thing + (0 if counts_0_when_in else 1)] = 0
                for number, weight in enumerate(product(p)[1:]):
                    self.assertEqual(weight == 0, (thing in members(number, things)) == counts_0_when_in, (p, number))

    def test_a_thing_that_counts_0_when_it_is_in(self):
        self.assertEqual(product([0, 3, 2, 1]), [4, 3, 0, 6, 0])
        self.assertEqual(product([2, 1, 0, 3]), [4, 3, 6, 0, 0])
        self.assert_0_for_half(counts_0_when_in=True)

    def test_a_thing_that_counts_0_when_it_is_out(self):
        self.assertEqual(product([3, 0, 2, 1]), [4, 0, 3, 0, 6])
        self.assertEqual(product([2, 1, 3, 0]), [4, 0, 0, 3, 6])
        self.assert_0_for_half(counts_0_when_in=False)

    def test_all_weights_0_and_one_set_alone(self):
        for things in range(1, 6):
            self.assertEqual(product([0, 0] * things), [2 ** things] + [0] * 2 ** things)
            self.assertEqual(product([10, 10] * (things - 1) + [0, 0]), [2 ** things] + [0] * 2 ** things)
            for number in range(2 ** things):
                p = []
                for thing in range(things):
                    p += [2, 0] if thing in members(number, things) else [0, 2]
                self.assertEqual(product(p), [2 ** things] + alone(things, number, 2 ** things))

    def test_all_numbers_1_and_all_numbers_10(self):
        for things in range(1, 6):
            self.assertEqual(product([1, 1] * things), [2 ** things] + [1] * 2 ** things)
            self.assertEqual(product([10, 10] * things), [2 ** things] + [10 ** things] * 2 ** things)
        self.assertEqual(product([10] * 10), [32] + [100000] * 32)

    def test_as_great_as_1000_and_greater(self):
        self.assertEqual(product([10, 9] * 3), [8, 729, 810, 810, 900, 810, 900, 900, 1000])
        self.assertEqual(product([10, 1] * 4)[-1], 10000)

    def test_small_numbers_against_the_words(self):
        for p in itertools.product(range(11), repeat=2):
            self.assertEqual(product(list(p)), [2] + made_thing_by_thing(pairs_of(p)), p)
        for p in itertools.product((0, 1, 2, 3, 10), repeat=4):
            self.assertEqual(product(list(p)), [4] + made_thing_by_thing(pairs_of(p)), p)
        for p in itertools.product((0, 1, 3), repeat=6):
            self.assertEqual(product(list(p)), [8] + made_thing_by_thing(pairs_of(p)), p)

    def test_mixed_numbers_against_the_words(self):
        for things in range(1, 6):
            for p in mixed_pairs(things, 60):
                self.assertEqual(product(p), [2 ** things] + made_thing_by_thing(pairs_of(p)), p)

    def test_weights_made_thing_by_thing_go_together(self):
        for p in itertools.product((0, 1, 2, 3, 10), repeat=4):
            self.assertEqual(together(2, product(list(p))[1:]), [1], p)


class ProductRefusalTest(unittest.TestCase):
    def test_every_length_but_2_to_10_in_pairs(self):
        for length in range(41):
            for number in (0, 1, 10):
                if length in (2, 4, 6, 8, 10):
                    self.assertEqual(product([number] * length)[0], 2 ** (length // 2))
                else:
                    self.assertEqual(product([number] * length), [-22], (length, number))

    def test_a_number_above_10(self):
        for things in range(1, 6):
            for place in range(2 * things):
                for number in (11, 12, 100, 1000, 65536, 2147483648, GREATEST):
                    for other in (0, 1, 10):
                        p = [other] * (2 * things)
                        p[place] = number
                        self.assertEqual(product(p), [-22], p)

    def test_several_at_once_are_one_number(self):
        self.assertEqual(product([11]), [-22])
        self.assertEqual(product([GREATEST] * 40), [-22])
        self.assertEqual(product([11, GREATEST] * 5), [-22])

    def test_what_is_handed_in_is_not_changed_nor_kept(self):
        for p in ([2, 3, 5, 7], [10] * 10, [0, 1], [], [1], [1] * 12, [1, 11]):
            handed = Untouchable(p)
            self.assertEqual(product(handed), product(p))
            self.assertEqual(list(handed), p)
        p = [2, 1]
        self.assertEqual(product(p), [2, 1, 2])
        p[0] = 3
        self.assertEqual(product(p), [2, 1, 3])


class GivenTest(unittest.TestCase):
    def test_out_takes_the_sets_that_have_it_and_in_the_others(self):
        self.assertEqual(given_of(2, 0, 0, [1, 2, 3, 4]), [4, 1, 0, 3, 0])
        self.assertEqual(given_of(2, 0, 1, [1, 2, 3, 4]), [4, 0, 2, 0, 4])
        self.assertEqual(given_of(2, 1, 0, [1, 2, 3, 4]), [4, 1, 2, 0, 0])
        self.assertEqual(given_of(2, 1, 1, [1, 2, 3, 4]), [4, 0, 0, 3, 4])

    def test_each_of_three_things(self):
        row = [1, 2, 3, 4, 5, 6, 7, 8]
        self.assertEqual(given_of(3, 0, 0, row), [8, 1, 0, 3, 0, 5, 0, 7, 0])
        self.assertEqual(given_of(3, 0, 1, row), [8, 0, 2, 0, 4, 0, 6, 0, 8])
        self.assertEqual(given_of(3, 1, 0, row), [8, 1, 2, 0, 0, 5, 6, 0, 0])
        self.assertEqual(given_of(3, 1, 1, row), [8, 0, 0, 3, 4, 0, 0, 7, 8])
        self.assertEqual(given_of(3, 2, 0, row), [8, 1, 2, 3, 4, 0, 0, 0, 0])
        self.assertEqual(given_of(3, 2, 1, row), [8, 0, 0, 0, 0, 5, 6, 7, 8])

    def test_one_thing(self):
        self.assertEqual(given_of(1, 0, 0, [5, 7]), [2, 5, 0])
        self.assertEqual(given_of(1, 0, 1, [5, 7]), [2, 0, 7])

    def test_corners(self):
        for n in range(1, 6):
            for i, v in itertools.product(range(n), (0, 1)):
                kept = [s for s in range(2 ** n) if (i in members(s, n)) == (v == 1)]
                self.assertEqual(len(kept), 2 ** n // 2)
                for weight in (0, 1, 1000):
                    self.assertEqual(given_of(n, i, v, [weight] * 2 ** n),
                                     [2 ** n] + [weight if s in kept else 0 for s in range(2 ** n)])
                for number, weight in itertools.product(range(2 ** n), (1, 1000)):
                    self.assertEqual(given_of(n, i, v, alone(n, number, weight)),
                                     [2 ** n] + alone(n, number, weight if number in kept else 0))

    def test_a_thing_that_counts_0_when_it_is_in(self):
        for n in range(1, 4):
            for i in range(n):
                p = [3, 2] * n
                p[2 * i] = 0
                self.assertEqual(given_of(n, i, 0, product(p)[1:]), product(p))
                self.assertEqual(given_of(n, i, 1, product(p)[1:]), [2 ** n] + [0] * 2 ** n)

    def test_small_rows_against_the_words(self):
        for n, numbers in ((1, (0, 1, 2, 999, 1000)), (2, range(5)), (3, range(2))):
            for row, i, v in itertools.product(rows_of(n, numbers), range(n), (0, 1)):
                self.assertEqual(given_of(n, i, v, row), given_by_members(n, i, v, row), (n, i, v, row))

    def test_mixed_rows_against_the_words(self):
        for n in range(1, 6):
            for row, i, v in itertools.product(mixed_rows(n, 20, 1001), range(n), (0, 1)):
                self.assertEqual(given_of(n, i, v, row), given_by_members(n, i, v, row), (n, i, v, row))

    def test_in_and_out_together_are_the_weights(self):
        for n in range(1, 6):
            for row, i in itertools.product(mixed_rows(n, 10, 1001), range(n)):
                out, inside = given_of(n, i, 0, row)[1:], given_of(n, i, 1, row)[1:]
                self.assertEqual([a + b for a, b in zip(out, inside)], row)

    def test_given_twice_is_given_once(self):
        for row, i, v in itertools.product(mixed_rows(3, 10, 1001), range(3), (0, 1)):
            once = given_of(3, i, v, row)
            self.assertEqual(given_of(3, i, v, once[1:]), once)
            self.assertEqual(given_of(3, i, 1 - v, once[1:]), [8] + [0] * 8)


class GivenRefusalTest(unittest.TestCase):
    def test_n_or_m_not_as_told_come_first(self):
        # Whatever i and v are: that there's no thing i is told later.
        for i, v in itertools.product((0, 1, 5, 6, GREATEST), (0, 1, 2, GREATEST)):
            for n in (0, 6, 7, 31, 64, 2147483648, GREATEST):
                for length in (0, 1, 2, 32, 40):
                    self.assertEqual(given_of(n, i, v, [1] * length), [-22], (n, i, v, length))
            for n in range(1, 6):
                for length in range(41):
                    if length != 2 ** n:
                        self.assertEqual(given_of(n, i, v, [1] * length), [-22], (n, i, v, length))
                for place, weight in itertools.product(range(2 ** n), (1001, GREATEST)):
                    row = [1] * 2 ** n
                    row[place] = weight
                    self.assertEqual(given_of(n, i, v, row), [-22], (n, i, v, row))

    def test_no_thing_i_comes_next(self):
        for n in range(1, 6):
            for i in (n, n + 1, 2 ** n, 31, 32, 64, 2147483648, GREATEST - 1, GREATEST):
                for v, weight in itertools.product((0, 1, 2, 3, 2147483648, GREATEST), (0, 1, 1000)):
                    self.assertEqual(given_of(n, i, v, [weight] * 2 ** n), [-2], (n, i, v))
            self.assertEqual(given_of(n, n - 1, 0, [1] * 2 ** n)[0], 2 ** n)

    def test_v_above_1_comes_last(self):
        for n in range(1, 6):
            for i, v, weight in itertools.product(range(n), (2, 3, 4, 2147483648, GREATEST), (0, 1, 1000)):
                self.assertEqual(given_of(n, i, v, [weight] * 2 ** n), [-22], (n, i, v))

    def test_what_is_handed_in_is_not_changed_nor_kept(self):
        for n, i, v in itertools.product((0, 2, 3), (0, 1, 2), (0, 1, 2)):
            handed = Untouchable([1, 2, 3, 4])
            self.assertEqual(given_of(n, i, v, handed), given_of(n, i, v, [1, 2, 3, 4]))
            self.assertEqual(list(handed), [1, 2, 3, 4])
        row = [1, 2, 3, 4]
        self.assertEqual(given_of(2, 0, 1, row), [4, 0, 2, 0, 4])
        row[1] = 9
        self.assertEqual(given_of(2, 0, 1, row), [4, 0, 9, 0, 4])


if __name__ == "__main__":
    unittest.main()
