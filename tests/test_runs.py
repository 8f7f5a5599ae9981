"""add_run, remove_run, full_factorial, clear_runs, get_run, summary, and add_factor while there are runs."""

import unittest
from itertools import product

from tests import helper as h

GREATEST = 4294967295


def every_run(count):
    """Calls that ask for the runs, and for one more than there are."""
    return [h.get_run(index) for index in range(count + 1)]


def told_runs(runs):
    """The answers to every_run."""
    return [[len(run)] + list(run) for run in runs] + [[-2]]


class AddRun(unittest.TestCase):
    START = h.coded_factors([2, 3, 5], [0, 1, 2])

    def test_runs_are_added_at_the_end(self):
        runs = [[1, 2, 4], [0, 0, 0], [1, 0, 3], [1, 2, 4]]
        told = h.run(self.START + [h.add_run(run) for run in runs] + every_run(4))
        self.assertEqual(told[4:], [[1], [2], [3], [4]] + told_runs(runs))

    def test_wrong_lengths(self):
        for levels in ([], [0], [0, 0], [0, 0, 0, 0], [0] * 200):
            told = h.run(self.START + [h.add_run(levels), h.summary(), h.add_run([0, 0, 0])])
            self.assertEqual(told[4:], [[-22], [3, 1, 1, 0], [1]], levels)

    def test_levels_that_the_factor_does_not_have(self):
        for levels in ([2, 0, 0], [0, 3, 0], [0, 0, 5], [GREATEST, 0, 0], [0, GREATEST, 0], [0, 0, GREATEST], [256, 0, 0],
                       [0, 0, 256], [2, 3, 5]):
            told = h.run(self.START + [h.add_run([1, 1, 1]), h.add_run(levels), h.get_run(1), h.summary()])
            self.assertEqual(told[4:], [[1], [-22], [-2], [3, 1, 1, 1]], levels)

    def test_every_level(self):
        runs = list(product(range(2), range(3), range(5)))
        told = h.run_behind(self.START, [call for run in runs for call in (h.add_run(list(run)), h.remove_run(0))])
        self.assertEqual(told, [[1], [0]] * 30)

    def test_the_25th_run(self):
        told = h.run(self.START + [h.add_run([1, 1, 1])] * 25 + [h.summary(), h.get_run(23), h.get_run(24)])
        self.assertEqual(told[4:], [[count] for count in range(1, 25)] + [[-28], [3, 1, 1, 24], [3, 1, 1, 1], [-2]])

    def test_order_of_errors(self):
        told = h.run(self.START + [h.add_run([0, 0, 0])] * 24 + [h.add_run([0, 0]), h.add_run([0, 3, 0]), h.add_run([0, 0, 0])])
        self.assertEqual(told[28:], [[-22], [-22], [-28]])

    def test_room_for_one_again(self):
        told = h.run(self.START + [h.add_run([0, 0, 0])] * 24 + [h.remove_run(3), h.add_run([1, 0, 0]), h.get_run(23),
                                                                h.add_run([0, 0, 0])])
        self.assertEqual(told[28:], [[23], [24], [3, 1, 0, 0], [-28]])

    def test_without_factors(self):
        told = h.run([h.create(), h.add_run([0]), h.add_run([]), h.add_run([]), h.get_run(0), h.get_run(1), h.get_run(2),
                      h.matrix(), h.summary()])
        self.assertEqual(told[1:], [[-22], [1], [2], [0], [0], [-2], [2, 1, 1, 1], [0, 1, 1, 2]])


class RemoveRun(unittest.TestCase):
    RUNS = [[0, 0], [0, 1], [1, 2], [1, 0]]
    START = h.coded_factors([2, 3], [0, 0]) + [h.add_run(run) for run in RUNS]

    def test_each_one(self):
        for index in range(4):
            left = self.RUNS[:index] + self.RUNS[index + 1:]
            told = h.run(self.START + [h.remove_run(index)] + every_run(3))
            self.assertEqual(told[7:], [[3]] + told_runs(left), index)

    def test_all(self):
        told = h.run(self.START + [h.remove_run(index) for index in (1, 2, 0, 0, 0)] + [h.summary()])
        self.assertEqual(told[7:], [[3], [2], [1], [0], [-2], [2, 1, 1, 0]])

    def test_no_such_run(self):
        told = h.run(self.START + [h.remove_run(4), h.remove_run(GREATEST)] + every_run(4))
        self.assertEqual(told[7:], [[-2], [-2]] + told_runs(self.RUNS))


class GetRun(unittest.TestCase):
    def test_no_such_run(self):
        told = h.run(h.factors("a") + [h.get_run(0), h.add_run([1]), h.get_run(0), h.get_run(1), h.get_run(GREATEST)])
        self.assertEqual(told[2:], [[-2], [1], [1, 1], [-2], [-2]])


class FullFactorial(unittest.TestCase):
    def test_all_combinations(self):
        for level_counts in ([2], [5], [2, 2], [2, 3], [3, 2], [4, 5], [2, 3, 4], [4, 3, 2], [2, 2, 2, 2], [3, 2, 2, 2]):
            runs = list(product(*[range(levels) for levels in level_counts]))
            told = h.run(h.coded_factors(level_counts, [0] * 5) + [h.full_factorial()] + every_run(len(runs)))
            self.assertEqual(told[1 + len(level_counts):], [[len(runs)]] + told_runs(runs), level_counts)

    def test_the_last_factor_varies_fastest(self):
        told = h.run(h.coded_factors([2, 3], [0, 0]) + [h.full_factorial()] + every_run(6))
        self.assertEqual(told[3:], [[6], [2, 0, 0], [2, 0, 1], [2, 0, 2], [2, 1, 0], [2, 1, 1], [2, 1, 2], [-2]])

    def test_24_combinations_and_more(self):
        cases = [([2, 3, 4], 24), ([3, 2, 2, 2], 24), ([4, 5], 20), ([5, 5], -28), ([3, 3, 3], -28), ([2, 2, 2, 2, 2], -28),
                 ([2, 3, 5], -28), ([5] * 6, -28), ([2] * 6, -28), ([4, 2, 3, 2], -28)]
        for level_counts, answer in cases:
            told = h.run(h.coded_factors(level_counts, [0] * 6) + [h.full_factorial(), h.summary()])
            self.assertEqual(told[1 + len(level_counts):], [[answer], [len(level_counts), 1, 1, max(answer, 0)]], level_counts)

    def test_it_replaces_the_runs(self):
        told = h.run(h.factors("a") + [h.add_run([1])] * 24 + [h.full_factorial()] + every_run(2) + [h.full_factorial()])
        self.assertEqual(told[26:], [[2], [1, 0], [1, 1], [-2], [2]])

    def test_refused_it_leaves_the_runs(self):
        told = h.run(h.coded_factors([5, 5], [0, 0]) + [h.add_run([4, 3]), h.add_run([1, 2]), h.full_factorial()] + every_run(2))
        self.assertEqual(told[5:], [[-28], [2, 4, 3], [2, 1, 2], [-2]])

    def test_without_factors(self):
        told = h.run([h.create(), h.full_factorial(), h.get_run(0), h.get_run(1), h.summary(), h.add_run([]), h.full_factorial()])
        self.assertEqual(told[1:], [[1], [0], [-2], [0, 1, 1, 1], [2], [1]])

    def test_the_runs_are_apart(self):
        told = h.run(h.factors("ab") + [h.full_factorial(), h.remove_run(0), h.add_run([0, 0]), h.full_factorial()] + every_run(4))
        self.assertEqual(told[3:], [[4], [3], [4], [4]] + told_runs([[0, 0], [0, 1], [1, 0], [1, 1]]))


class ClearRuns(unittest.TestCase):
    def test_clear_runs(self):
        told = h.run(h.factors("ab") + [h.clear_runs(), h.full_factorial(), h.clear_runs(), h.get_run(0), h.clear_runs(),
                                        h.add_run([1, 1]), h.get_run(0), h.clear_runs(), h.summary()])
        self.assertEqual(told[3:], [[0], [4], [4], [-2], [0], [1], [2, 1, 1], [1], [2, 1, 1, 0]])

    def test_the_factors_and_the_model_stay(self):
        told = h.run(h.factors("ab") + [h.set_model("a:b - 1"), h.full_factorial(), h.clear_runs(), h.terms(), h.summary()])
        self.assertEqual(told[3:], [[1], [4], [4], [1, 3], [2, 1, 1, 0]])


class AddFactorWhileThereAreRuns(unittest.TestCase):
    def test_it_is_refused(self):
        told = h.run(h.factors("a") + [h.add_run([1]), h.add_factor(2, 0, "b"), h.check("b"), h.summary(), h.get_run(0)])
        self.assertEqual(told[2:], [[1], [-16], [3, 0], [1, 1, 1, 1], [1, 1]])

    def test_runs_without_factors_count(self):
        told = h.run([h.create(), h.full_factorial(), h.add_factor(2, 0, "a"), h.remove_run(0), h.add_factor(2, 0, "a")])
        self.assertEqual(told[1:], [[1], [-16], [0], [0]])

    def test_order_of_errors(self):
        told = h.run(h.factors("a") + [h.add_run([1]), h.add_factor(1, 0, "a"), h.add_factor(2, 4, "b"), h.add_factor(2, 0, "B"),
                                       h.add_factor(2, 0, "a"), h.add_factor(2, 0, "b")])
        self.assertEqual(told[3:], [[-22], [-22], [-22], [-17], [-16]])
        told = h.run(h.factors("abcdef") + [h.add_run([1] * 6), h.add_factor(6, 0, "g"), h.add_factor(2, 0, "f"),
                                            h.add_factor(2, 0, "g")])
        self.assertEqual(told[8:], [[-22], [-17], [-28]])

    def test_without_runs_again(self):
        told = h.run(h.factors("a") + [h.full_factorial(), h.add_factor(3, 0, "b"), h.clear_runs(), h.add_factor(3, 0, "b"),
                                       h.add_run([1]), h.add_run([1, 2])])
        self.assertEqual(told[2:], [[2], [-16], [2], [1], [-22], [1]])


class Summary(unittest.TestCase):
    def test_summary(self):
        told = h.run([h.create(), h.summary(), h.add_factor(4, 0, "a"), h.summary(), h.add_factor(3, 0, "b"), h.set_model("a*b"),
                      h.summary(), h.add_run([3, 2]), h.add_run([0, 0]), h.summary(), h.set_model("1-1"), h.summary(),
                      h.set_model("a:b-1"), h.remove_run(0), h.summary()])
        self.assertEqual([told[1], told[3], told[6], told[9], told[11], told[14]],
                         [[0, 1, 1, 0], [1, 1, 1, 0], [2, 4, 12, 0], [2, 4, 12, 2], [2, 0, 0, 2], [2, 1, 6, 1]])


if __name__ == "__main__":
    unittest.main()
