"""The call forgot, held against DOC.md."""

import itertools
import unittest

from rows import GREATEST, Untouchable, alone, made_thing_by_thing, members, mixed_rows, rows_of, weight_by_members
from weightstogether.sets import forgot, product


def forgot_by_members(n, i, m):
    weight = weight_by_members(n, m)
    left = [thing for thing in range(n) if thing != i]
    weights = []
    for number in range(2 ** (n - 1)):
        # Thing v of what is left had the number that stands at place v among those left.
        had = frozenset(left[v] for v in members(number, n - 1))
        weights.append(weight[had] + weight[had | {i}])
    return [2 ** (n - 1)] + weights


class ForgotTest(unittest.TestCase):
    def test_either_of_two_things(self):
        self.assertEqual(forgot(2, 0, [1, 20, 300, 4]), [2, 21, 304])
        self.assertEqual(forgot(2, 1, [1, 20, 300, 4]), [2, 301, 24])

    def test_each_of_three_things(self):
        row = [1, 2, 4, 8, 16, 32, 64, 128]
        self.assertEqual(forgot(3, 0, row), [4, 3, 12, 48, 192])
        self.assertEqual(forgot(3, 1, row), [4, 5, 10, 80, 160])
        self.assertEqual(forgot(3, 2, row), [4, 17, 34, 68, 136])

    def test_the_first_the_last_and_one_between_of_four_things(self):
        row = list(range(16))
        self.assertEqual(forgot(4, 0, row), [8, 1, 5, 9, 13, 17, 21, 25, 29])
        self.assertEqual(forgot(4, 1, row), [8, 2, 4, 10, 12, 18, 20, 26, 28])
        self.assertEqual(forgot(4, 2, row), [8, 4, 6, 8, 10, 20, 22, 24, 26])
        self.assertEqual(forgot(4, 3, row), [8, 8, 10, 12, 14, 16, 18, 20, 22])

    def test_the_first_the_last_and_one_between_of_five_things(self):
        row = list(range(32))
        self.assertEqual(forgot(5, 0, row), [16] + [4 * number + 1 for number in range(16)])
        self.assertEqual(forgot(5, 4, row), [16] + [2 * number + 16 for number in range(16)])
        self.assertEqual(forgot(5, 2, row),
                         [16, 4, 6, 8, 10, 20, 22, 24, 26, 36, 38, 40, 42, 52, 54, 56, 58])

    def test_how_many_weights_come_first(self):
        for n in range(2, 6):
            for i in range(n):
                answer = forgot(n, i, [1] * 2 ** n)
                self.assertEqual(answer[0], 2 ** (n - 1))
                self.assertEqual(len(answer), 1 + 2 ** (n - 1))

    def test_the_things_behind_are_numbered_one_less(self):
        # One set alone has a weight, so it is seen where that has come to.
        self.assertEqual(forgot(3, 0, alone(3, 6, 7)), [4] + alone(2, 3, 7))
        self.assertEqual(forgot(3, 1, alone(3, 6, 7)), [4] + alone(2, 2, 7))
        self.assertEqual(forgot(3, 2, alone(3, 6, 7)), [4] + alone(2, 2, 7))
        self.assertEqual(forgot(5, 1, alone(5, 20, 7)), [16] + alone(4, 10, 7))
        self.assertEqual(forgot(5, 2, alone(5, 20, 7)), [16] + alone(4, 8, 7))
        self.assertEqual(forgot(5, 4, alone(5, 20, 7)), [16] + alone(4, 4, 7))

    def test_one_set_alone(self):
        for n in range(2, 6):
            for number, i, weight in itertools.product(range(2 ** n), range(n), (1, 1000)):
                numbered = [v if v < i else v - 1 for v in members(number, n) if v != i]
                self.assertEqual(forgot(n, i, alone(n, number, weight)),
                                 [2 ** (n - 1)] + alone(n - 1, sum(2 ** v for v in numbered), weight))

    def test_weights_that_are_all_one_number(self):
        # All weights 0, weights that are all one, and as great as 1000: 2000 comes out, as it is.
        for n in range(2, 6):
            for i, weight in itertools.product(range(n), (0, 1, 1000)):
                self.assertEqual(forgot(n, i, [weight] * 2 ** n), [2 ** (n - 1)] + [2 * weight] * 2 ** (n - 1))

    def test_as_great_as_1000(self):
        self.assertEqual(forgot(2, 0, [1000, 1, 999, 1000]), [2, 1001, 1999])
        self.assertEqual(forgot(2, 1, [1000, 1, 999, 1000]), [2, 1999, 1001])

    def test_what_is_made_thing_by_thing_stays_so(self):
        # The forgotten thing counts for every set as much as it does in and out, together.
        for pairs in ([(3, 2), (1, 4)], [(0, 3), (2, 1), (4, 5)], [(1, 2), (3, 0), (2, 2), (1, 3)], [(2, 1)] * 5):
            n = len(pairs)
            for i in range(n):
                left = pairs[:i] + pairs[i + 1:]
                both = sum(pairs[i])
                self.assertEqual(forgot(n, i, product([number for pair in pairs for number in pair])[1:]),
                                 [2 ** (n - 1)] + [both * weight for weight in made_thing_by_thing(left)])

    def test_small_rows_against_the_words(self):
        for n, numbers in ((2, range(5)), (3, range(3))):
            for row, i in itertools.product(rows_of(n, numbers), range(n)):
                self.assertEqual(forgot(n, i, row), forgot_by_members(n, i, row), (n, i, row))

    def test_mixed_rows_against_the_words(self):
        for n, bound in itertools.product(range(2, 6), (2, 13, 1001)):
            for row, i in itertools.product(mixed_rows(n, 20, bound), range(n)):
                self.assertEqual(forgot(n, i, row), forgot_by_members(n, i, row), (n, i, row))

    def test_all_weights_together_stay_what_they_are(self):
        for n in range(2, 6):
            for row, i in itertools.product(mixed_rows(n, 10, 1001), range(n)):
                self.assertEqual(sum(forgot(n, i, row)[1:]), sum(row))

    def test_two_things_may_be_forgotten_in_either_order(self):
        for row in mixed_rows(4, 10, 500):
            for first, second in itertools.combinations(range(4), 2):
                # The second is numbered one less once the first is forgotten.
                one = forgot(3, second - 1, forgot(4, first, row)[1:])
                other = forgot(3, first, forgot(4, second, row)[1:])
                self.assertEqual(one, other)
                self.assertEqual(one[0], 4)


class ForgotRefusalTest(unittest.TestCase):
    def test_n_or_m_not_as_told_come_first(self):
        # Whatever i is, and where n is 1 as well: these are told later.
        for i in (0, 1, 4, 5, 6, 2147483648, GREATEST):
            for n in (0, 6, 7, 31, 32, 64, 2147483648, GREATEST - 1, GREATEST):
                for length, weight in itertools.product((0, 1, 2, 32, 40), (0, 1)):
                    self.assertEqual(forgot(n, i, [weight] * length), [-22], (n, i, length))
            for n in range(1, 6):
                for length, weight in itertools.product(range(41), (0, 1)):
                    if length != 2 ** n:
                        self.assertEqual(forgot(n, i, [weight] * length), [-22], (n, i, length))
                for place, weight in itertools.product(range(2 ** n), (1001, 2000, GREATEST)):
                    row = [1] * 2 ** n
                    row[place] = weight
                    self.assertEqual(forgot(n, i, row), [-22], (n, i, row))

    def test_no_thing_i_comes_next(self):
        # Also where n is 1.
        for n in range(1, 6):
            for i in (n, n + 1, 2 ** n, 31, 32, 64, 2147483648, GREATEST - 1, GREATEST):
                for weight in (0, 1, 1000):
                    self.assertEqual(forgot(n, i, [weight] * 2 ** n), [-2], (n, i))

    def test_n_of_1_comes_last(self):
        for row in itertools.product((0, 1, 7, 1000), repeat=2):
            self.assertEqual(forgot(1, 0, list(row)), [-33])
        for n in range(2, 6):
            self.assertEqual(forgot(n, n - 1, [0] * 2 ** n)[0], 2 ** (n - 1))

    def test_what_is_handed_in_is_not_changed_nor_kept(self):
        for n, i in itertools.product((0, 1, 2, 3), (0, 1, 2)):
            for row in ([1, 2, 3, 4], [5, 6], [1, 1, 1, 1001], []):
                handed = Untouchable(row)
                self.assertEqual(forgot(n, i, handed), forgot(n, i, row))
                self.assertEqual(list(handed), row)
        row = [1, 2, 3, 4]
        self.assertEqual(forgot(2, 0, row), [2, 3, 7])
        row[1] = 9
        self.assertEqual(forgot(2, 0, row), [2, 10, 7])


if __name__ == "__main__":
    unittest.main()
