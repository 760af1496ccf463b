"""What is asked of every call: what it refuses, what it answers, and that it neither changes nor keeps anything."""

import inspect
import itertools
import unittest

from rows import GREATEST, Untouchable
from weightstogether.sets import forgot, given_of, goes, increasing, mean, over, product, together, total

NOT_AS_TOLD = [-22]
# The arguments in their order, each a letter.
ARGUMENTS = {together: "nm", increasing: "nf", mean: "nmf", goes: "nmfg", over: "nmk", total: "nmx", product: "p",
             given_of: "nivm", forgot: "nim"}
# Those of them that are weights.
WEIGHTS = {call: [name for name in names if name in "mfgk"] for call, names in ARGUMENTS.items() if "n" in names}
# What else is handed in beside n and is right for each n.
OTHERS = {total: {"x": [0, 1]}, given_of: {"i": 0, "v": 1}, forgot: {"i": 0}}
WRONG_NUMBERS_OF_THINGS = (0, 6, 7, 31, 32, 33, 64, 1000, 2147483648, GREATEST - 1, GREATEST)


def with_weights(call, row):
    """What is handed in beside n: the same weights wherever weights are asked for, and what else is."""
    return {name: list(row) for name in WEIGHTS[call]} | OTHERS.get(call, {})


def untouchable(arguments):
    return {name: Untouchable(value) if isinstance(value, list) else value for name, value in arguments.items()}


class RefusalTest(unittest.TestCase):
    def assert_refused(self, call, n, arguments):
        answer = call(n, **arguments)
        if answer != NOT_AS_TOLD:
            self.fail(f"{call.__name__} answers {answer} to {n}, {arguments}")

    def assert_row_refused(self, n, wrong):
        # All weights 0 as well, of which mean has a refusal of its own that is told later.
        for call, names in WEIGHTS.items():
            for name in names:
                for other in (1, 0):
                    self.assert_refused(call, n, with_weights(call, [other] * 2 ** n) | {name: wrong})

    def test_n_is_not_1_to_5(self):
        for call in WEIGHTS:
            for n in WRONG_NUMBERS_OF_THINGS:
                for length in (0, 1, 2, 32, 40):
                    for weight in (0, 1):
                        self.assert_refused(call, n, with_weights(call, [weight] * length))

    def test_six_things_are_refused_for_themselves(self):
        # Longer than a list may be, but so the row fits n, and n alone is wrong.
        for call in WEIGHTS:
            self.assert_refused(call, 6, with_weights(call, [1] * 64))

    def test_row_has_not_one_number_for_each_set(self):
        for n in range(1, 6):
            for length in range(41):
                if length != 2 ** n:
                    self.assert_row_refused(n, [0] * length)
                    self.assert_row_refused(n, [1] * length)

    def test_weight_is_above_1000(self):
        for n in range(1, 6):
            for place in range(2 ** n):
                for weight in (1001, 65536, GREATEST):
                    row = [1] * 2 ** n
                    row[place] = weight
                    self.assert_row_refused(n, row)

    def test_several_at_once_are_one_number(self):
        for call in WEIGHTS:
            self.assert_refused(call, 0, with_weights(call, []))
            self.assert_refused(call, GREATEST, with_weights(call, [GREATEST] * 40))
            self.assert_refused(call, 2, with_weights(call, [GREATEST] * 3))

    def test_bounds_themselves_are_taken(self):
        for call in WEIGHTS:
            # Of one thing forgot has a refusal of its own.
            for n in (2 if call is forgot else 1, 5):
                row = [0] * (2 ** n - 1) + [1000]
                self.assertGreaterEqual(call(n, **with_weights(call, row))[0], 0)


class RefusalOrderTest(unittest.TestCase):
    """Every call with every mix of right and wrong arguments, held against point 1 read from its start."""

    def lists(self, n):
        # Lists as long as n asks for, if it is a number of things, and others.
        length = 2 ** n if n in range(1, 6) else 2
        yield from ([], [1] * length, [0] * length, [0] * (length - 1) + [1000], [0] * (length - 1) + [1001],
                    [1] * (length - 1), [0] * (length + 1), [GREATEST] * 40)

    def families(self, n):
        yield from ([], [0], [0, 1], [1, 0], [1, 1], [2 ** n - 1] if n in range(1, 6) else [2],
                    [2 ** n] if n in range(1, 6) else [3], [GREATEST] * 40)

    def pairs(self):
        for things in range(8):
            for number in (0, 1, 10, 11, GREATEST):
                for place in range(2 * things):
                    yield [1] * place + [number] + [1] * (2 * things - place - 1)
                yield [number] * (2 * things + 1)
        yield []
        yield [1] * 40

    def choices(self, name, n):
        if name in "mfgk":
            return self.lists(n)
        return {"n": [n], "i": [0, 1, max(n, 1) - 1, n, min(n + 1, GREATEST), 5, GREATEST], "v": [0, 1, 2, GREATEST],
                "x": self.families(n), "p": self.pairs()}[name]

    def is_as_told(self, name, value, n):
        if name in "mfgk":
            return len(value) == 2 ** n and max(value) <= 1000
        if name == "x":
            return value == sorted(frozenset(value)) and all(number < 2 ** n for number in value)
        if name == "p":
            return len(value) in (2, 4, 6, 8, 10) and max(value) <= 10
        return True

    def due(self, call, arguments):
        n = arguments.get("n", 1)
        if n not in range(1, 6) or not all(self.is_as_told(name, value, n) for name, value in arguments.items()):
            return [-22]
        if arguments.get("i", 0) >= n:
            return [-2]
        if arguments.get("v", 0) > 1:
            return [-22]
        if call is mean and sum(arguments["m"]) == 0:
            return [-6]
        if call is forgot and n == 1:
            return [-33]
        return None

    def test_the_refusal_told_first_is_answered_alone(self):
        for call, names in ARGUMENTS.items():
            seen = []
            for n in (0, 1, 2, 5, 6, GREATEST) if "n" in names else (1,):
                for values in itertools.product(*[list(self.choices(name, n)) for name in names]):
                    arguments = dict(zip(names, values))
                    refusal, answer = self.due(call, arguments), call(**arguments)
                    if (answer[0] >= 0) if refusal is None else (answer == refusal):
                        seen.append(refusal)
                    else:
                        self.fail(f"{call.__name__} answers {answer} to {arguments}, due is {refusal}")
            self.assertIn(None, seen)
            self.assertIn([-22], seen)
            self.assertEqual([-2] in seen, call in (given_of, forgot))
            self.assertEqual([-6] in seen, call is mean)
            self.assertEqual([-33] in seen, call is forgot)


class InterfaceTest(unittest.TestCase):
    def samples(self, call):
        if call is product:
            for p in ([3, 2], [2, 3, 5, 7], [0, 1, 1, 0, 4, 4], [10] * 10, [0] * 8, [1, 11], [1], []):
                yield {"p": p}
            return
        for n, row in ((2, [0, 5, 3, 8]), (2, [1, 1, 1, 0]), (1, [1000, 1000]), (5, [7] * 32), (3, [0] * 8),
                       (2, [1, 1, 1001, 1]), (3, [1, 2]), (GREATEST, [])):
            yield {"n": n} | with_weights(call, row)

    def every_sample(self):
        for call in ARGUMENTS:
            for arguments in self.samples(call):
                yield call, arguments

    def test_the_arguments_are_those_that_are_told_and_none_may_be_left_out(self):
        for call, names in ARGUMENTS.items():
            parameters = inspect.signature(call).parameters
            self.assertEqual(list(parameters), list(names))
            self.assertTrue(all(parameter.default is parameter.empty for parameter in parameters.values()))

    def test_as_many_numbers_are_answered_as_are_told(self):
        after = {together: {1: 0, 0: 2}, over: {1: 0, 0: 2}, increasing: {1: 0, 0: 0}, mean: {0: 2},
                 goes: {2: 2, 1: 2, 0: 2}}
        for call, arguments in self.every_sample():
            answer = call(**arguments)
            if answer[0] < 0 or call is total:
                self.assertEqual(len(answer), 1)
            elif call in after:
                self.assertEqual(len(answer), 1 + after[call][answer[0]])
            else:
                self.assertEqual(len(answer), 1 + answer[0])

    def test_arguments_may_be_told_by_their_names(self):
        for call, arguments in self.every_sample():
            self.assertEqual(call(**arguments), call(*[arguments[name] for name in ARGUMENTS[call]]))

    def test_answers_are_lists_of_whole_numbers(self):
        for call, arguments in self.every_sample():
            answer = call(**arguments)
            self.assertIs(type(answer), list)
            self.assertEqual([type(number) for number in answer], [int] * len(answer))

    def test_no_number_is_below_0_but_a_refusal_alone(self):
        for call, arguments in self.every_sample():
            answer = call(**arguments)
            self.assertTrue(len(answer) == 1 or min(answer) >= 0, answer)

    def test_what_is_handed_in_is_not_changed(self):
        for call, arguments in self.every_sample():
            handed = untouchable(arguments)
            self.assertEqual(call(**handed), call(**arguments))
            self.assertEqual(handed, arguments)

    def test_what_is_given_back_is_not_what_was_handed_in(self):
        for call, arguments in self.every_sample():
            handed = untouchable(arguments)
            answer = call(**handed)
            self.assertFalse(any(answer is value for value in handed.values()))

    def test_one_list_may_be_handed_in_for_several(self):
        for call, names in WEIGHTS.items():
            for arguments in self.samples(call):
                row = Untouchable(arguments[names[0]])
                self.assertEqual(call(**(arguments | {name: row for name in names})), call(**arguments))

    def test_nothing_is_kept(self):
        for call in ARGUMENTS:
            answers = [call(**arguments) for arguments in self.samples(call)]
            for arguments in self.samples(call):
                call(**arguments).append(99)
            again = [call(**arguments) for arguments in reversed(list(self.samples(call)))]
            self.assertEqual(again[::-1], answers)

    def test_a_row_changed_between_calls_is_read_anew(self):
        row = [1, 1, 1, 1]
        self.assertEqual((together(2, row), increasing(2, row)), ([1], [1]))
        self.assertEqual((mean(2, [1, 1, 1, 1], row), goes(2, [1, 1, 1, 1], row, row)), ([0, 1, 1], [1, 16, 16]))
        row[3] = 0
        self.assertEqual((together(2, row), increasing(2, row)), ([0, 1, 2], [0]))
        self.assertEqual((mean(2, [1, 1, 1, 1], row), goes(2, [1, 1, 1, 1], row, row)), ([0, 3, 4], [2, 12, 9]))


if __name__ == "__main__":
    unittest.main()
