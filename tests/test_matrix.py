"""row, matrix, rank, aliased, information, determinant and is_estimable."""

import unittest
from itertools import product

from tests import helper as h
from tests import reference

GREATEST = 4294967295
WHOLE = [h.matrix(), h.rank(), h.aliased(), h.information(), h.determinant()]


def flat(rows):
    return [entry for row in rows for entry in row]


class Row(unittest.TestCase):
    def test_the_terms_in_their_order(self):
        told = h.run(h.coded_factors([3, 3], [0, 2]) + [h.set_model("a:b + b"), h.row_of([1, 2]), h.row_of([2, 0]), h.row_of([0, 1])])
        self.assertEqual(told[4:], [[7, 1, 0, 2, 0, 2, 0, 0], [7, 1, -1, -1, 0, 0, -1, -1], [7, 1, 1, -1, 0, 0, 0, 0]])

    def test_the_smallest_factor_varies_slowest(self):
        told = h.run(h.coded_factors([4, 3, 3], [3, 3, 2]) + [
            h.set_model("b:a - 1"), h.row_of([0, 2, 0]), h.row_of([1, 1, 2]), h.set_model("c:b:a - 1"), h.row_of([3, 0, 0]),
            h.set_model("c:a - 1"), h.row_of([2, 1, 1])])
        self.assertEqual(told[4:], [[1], [6, -3, -3, 1, 1, -1, -1], [6, 0, 2, 0, 2, 0, -6], [1],
                                    [12, 3, 3, -3, -3, 1, 1, -1, -1, 1, 1, -1, -1], [1], [6, 1, -1, -1, 1, -3, 3]])

    def test_every_coding(self):
        for number, levels in product(range(4), range(2, 6)):
            calls = [h.set_model("a")] + [h.row_of([level]) for level in range(levels)]
            rows = [[levels, 1] + entries for entries in reference.CODINGS[number, levels]]
            self.assertEqual(h.run(h.coded_factors([levels], [number]) + calls)[3:], rows, (number, levels))

    def test_what_is_no_run(self):
        start = h.coded_factors([2, 3], [0, 0])
        for levels in ([], [0], [0, 0, 0], [2, 0], [0, 3], [GREATEST, 0], [0, GREATEST], [0] * 200):
            self.assertEqual(h.run(start + [h.row_of(levels)])[3:], [[-22]], levels)

    def test_without_columns_or_factors(self):
        told = h.run([h.create(), h.row_of([]), h.row_of([0]), h.set_model("1-1"), h.row_of([]), h.row_of([0])])
        self.assertEqual(told[1:], [[1, 1], [-22], [0], [0], [-22]])
        self.assertEqual(h.run(h.factors("a") + [h.set_model("1-1"), h.row_of([1]), h.row_of([2])])[3:], [[0], [-22]])

    def test_it_adds_no_run(self):
        told = h.run(h.factors("a") + [h.row_of([1]), h.summary()] + [h.add_run([0])] * 24 + [h.row_of([1])])
        self.assertEqual([told[2], told[3], told[-1]], [[1, 1], [1, 1, 1, 0], [1, 1]])

    def test_24_columns(self):
        told = h.run(h.coded_factors([4, 5, 3], [0, 1, 2]) + [h.set_model("a:b:c - 1"), h.row_of([2, 4, 1])])
        self.assertEqual(told[4:], [[1], [24] + [0] * 8 + [-1, 1] * 4 + [0] * 8])


class Matrix(unittest.TestCase):
    START = h.coded_factors([2, 3], [1, 0])

    def test_the_rows_of_all_runs(self):
        told = h.run(self.START + [h.set_model("a + b"), h.add_run([1, 2]), h.add_run([0, 0]), h.add_run([1, 2]), h.matrix()])
        self.assertEqual(told[7], [3, 4, 1, -1, 0, 1, 1, 1, 0, 0, 1, -1, 0, 1])

    def test_removed_runs(self):
        told = h.run(self.START + [h.set_model("b - 1"), h.full_factorial(), h.remove_run(1), h.remove_run(4), h.matrix()])
        self.assertEqual(told[7], [4, 2, 0, 0, 0, 1, 0, 0, 1, 0])

    def test_24_runs_and_24_columns(self):
        start = h.coded_factors([2, 3, 4], [1, 2, 3])
        told = h.run(start + [h.set_model("a*b*c"), h.full_factorial()] + WHOLE)[6:]
        terms = [[], [0], [1], [2], [0, 1], [0, 2], [1, 2], [0, 1, 2]]
        rows = [reference.design_row(terms, [2, 3, 4], [1, 2, 3], run) for run in product(range(2), range(3), range(4))]
        # The columns of these codings are orthogonal in a full factorial.
        squares = [24, 24, 16, 48, 120, 24, 120, 16, 48, 120, 24, 120, 80, 16, 80, 240, 48, 240, 80, 16, 80, 240, 48, 240]
        diagonal = [squares[one] if one == two else 0 for one in range(24) for two in range(24)]
        determinant = 4 ** 12 * 36 ** 8 * 6400 ** 6
        self.assertEqual(told, [[24, 24] + flat(rows), [24], [24] + [0] * 24, [24] + diagonal, [determinant]])


class NoRunsOrNoColumns(unittest.TestCase):
    def test_no_runs(self):
        told = h.run(h.coded_factors([2, 3], [1, 2]) + [h.set_model("a + b")] + WHOLE + [
            h.is_estimable([0, 0, 0, 0]), h.is_estimable([1, 0, 0, 0]), h.is_estimable([0, 0, 0, -1]), h.is_estimable([0, 0, 0])])
        self.assertEqual(told[4:], [[0, 4], [0], [4, 1, 1, 1, 1], [4] + [0] * 16, [0], [1], [0], [0], [-22]])

    def test_no_columns(self):
        told = h.run(h.factors("ab") + [h.set_model("1-1"), h.full_factorial()] + WHOLE + [h.is_estimable([]), h.is_estimable([0])])
        self.assertEqual(told[5:], [[4, 0], [0], [0], [0], [1], [1], [-22]])

    def test_neither(self):
        told = h.run([h.create(), h.set_model("0-1")] + WHOLE + [h.is_estimable([]), h.is_estimable([0])])
        self.assertEqual(told[2:], [[0, 0], [0], [0], [0], [1], [1], [-22]])

    def test_no_factors(self):
        told = h.run([h.create()] + WHOLE + [h.full_factorial()] + WHOLE + [h.add_run([])] + WHOLE)
        self.assertEqual(told[1:], [[0, 1], [0], [1, 1], [1, 0], [0], [1], [1, 1, 1], [1], [1, 0], [1, 1], [1],
                                    [2], [2, 1, 1, 1], [1], [1, 0], [1, 2], [2]])


class Changes(unittest.TestCase):
    def test_a_coding_while_there_are_runs(self):
        told = h.run(h.coded_factors([3], [0]) + [h.set_model("a"), h.full_factorial()] + WHOLE + [h.set_coding(0, 3)] + WHOLE)
        self.assertEqual(told[4:], [[3, 3, 1, 0, 0, 1, 1, 0, 1, 0, 1], [3], [3, 0, 0, 0], [3, 3, 1, 1, 1, 1, 0, 1, 0, 1], [1],
                                    [0], [3, 3, 1, -1, 1, 1, 0, -2, 1, 1, 1], [3], [3, 0, 0, 0],
                                    [3, 3, 0, 0, 0, 2, 0, 0, 0, 6], [36]])

    def test_the_model_while_there_are_runs(self):
        told = h.run(h.coded_factors([2, 2], [0, 1]) + [h.add_run([0, 0]), h.add_run([1, 1]), h.set_model("a:b - 1")] + WHOLE + [
            h.close()] + WHOLE + [h.set_model("a + b + a:b +"), h.rank(), h.summary()])
        self.assertEqual(told[6:], [[2, 1, 0, -1], [1], [1, 0], [1, 1], [1], [4], [2, 4, 1, 0, 1, 0, 1, 1, -1, -1], [2],
                                    [4, 0, 0, 1, 1], [4, 2, 1, 0, -1, 1, 1, -1, -1, 0, -1, 2, 1, -1, -1, 1, 1], [0], [-22], [2],
                                    [2, 4, 4, 2]])

    def test_asking_changes_nothing(self):
        asked = WHOLE + [h.is_estimable([5, 7, 9]), h.row_of([2]), h.coding(0), h.summary(), h.get_run(1)]
        told = h.run(h.coded_factors([3], [2]) + [h.set_model("a"), h.full_factorial()] + asked * 3)[4:]
        self.assertEqual(told[:10], told[10:20])
        self.assertEqual(told[:10], told[20:])


class Aliased(unittest.TestCase):
    def test_earlier_columns_alone_count(self):
        told = h.run(h.coded_factors([2, 2, 2], [1, 1, 1]) + [h.set_model("a*b*c")] + [
            h.add_run(run) for run in ([0, 0, 0], [0, 1, 1], [1, 0, 1], [1, 1, 0])] + [h.aliased(), h.rank(), h.determinant()])
        self.assertEqual(told[9:], [[8, 0, 0, 0, 0, 1, 1, 1, 1], [4], [0]])

    def test_a_column_of_zeros(self):
        told = h.run(h.coded_factors([3, 2], [0, 0]) + [h.set_model("a + b - 1"), h.add_run([0, 1]), h.add_run([2, 0]),
                                                        h.aliased(), h.rank(), h.determinant()])
        self.assertEqual(told[6:], [[3, 1, 0, 0], [2], [0]])

    def test_a_later_column_that_is_not_aliased(self):
        told = h.run(h.coded_factors([2, 2], [1, 1]) + [h.set_model("a*b"), h.add_run([0, 0]), h.add_run([0, 1]), h.add_run([0, 1]),
                                                        h.aliased(), h.rank()])
        self.assertEqual(told[7:], [[4, 0, 1, 0, 1], [2]])


class Determinant(unittest.TestCase):
    def test_more_than_64_bits(self):
        told = h.run(h.coded_factors([4, 5], [3, 3]) + [h.set_model("a*b"), h.full_factorial(), h.determinant(),
                                                        h.remove_run(7), h.determinant(), h.add_run([1, 2]), h.determinant()])
        whole = (4 * 20 * 4 * 20) ** 5 * (5 * 10 * 14 * 10 * 70) ** 4
        self.assertGreater(whole, 2 ** 64)
        self.assertEqual([told[5], told[7], told[9]], [[whole], [0], [whole]])

    def test_repeated_runs(self):
        told = h.run(h.coded_factors([5], [2]) + [h.set_model("a"), h.full_factorial(), h.determinant()] + [
            call for level in range(5) for call in (h.add_run([level]), h.determinant())])
        once = 14400
        self.assertEqual(told[4:5] + told[6::2], [[once * 2 ** times] for times in range(6)])

    def test_more_columns_than_runs(self):
        told = h.run(h.coded_factors([5], [1]) + [h.set_model("a")] + [h.add_run([level]) for level in (0, 1, 2, 3)] + [
            h.determinant(), h.rank(), h.add_run([4]), h.determinant(), h.rank()])
        self.assertEqual(told[7:], [[0], [4], [5], [25], [5]])


class IsEstimable(unittest.TestCase):
    START = h.coded_factors([2, 3], [1, 0]) + [h.set_model("a + b"), h.add_run([0, 0]), h.add_run([1, 1]), h.add_run([0, 1])]

    def expect(self, vectors, answer):
        for vector in vectors:
            self.assertEqual(h.run(self.START + [h.is_estimable(vector)])[-1], [answer], vector)

    def test_linear_combinations_of_rows(self):
        # The rows are (1, 1, 0, 0), (1, -1, 1, 0) and (1, 1, 1, 0).
        self.expect([[1, 1, 0, 0], [1, -1, 1, 0], [0, 0, 1, 0], [0, 1, 0, 0], [1, 0, 0, 0], [0, 0, 0, 0], [3, -7, 5, 0]], 1)
        self.expect([[0, 0, 0, 1], [1, 1, 0, 1], [0, 0, 1, -1], [0, 0, 0, -2147483648]], 0)

    def test_great_elements(self):
        self.expect([[-2147483648, 2147483647, -2147483648, 0], [2147483647, 2147483647, 2147483646, 0]], 1)
        self.expect([[-2147483648, 2147483647, -2147483648, 1], [2147483647] * 4, [-2147483648] * 4], 0)

    def test_fractions(self):
        start = h.coded_factors([5], [3]) + [h.set_model("a - 1"), h.add_run([0])]
        vectors = [[-2, 2, -1, 1], [2, -2, 1, -1], [-4, 4, -2, 2], [-1, 1, 0, 0], [-6, 6, -3, 3], [-2, 2, -1, 2], [2, 2, -1, 1]]
        told = h.run(start + [h.is_estimable(vector) for vector in vectors])
        self.assertEqual(told[4:], [[1], [1], [1], [0], [1], [0], [0]])
        told = h.run(h.coded_factors([3], [3]) + [h.set_model("a - 1"), h.add_run([1]), h.is_estimable([0, 1]), h.is_estimable([0, -3]),
                                                  h.is_estimable([1, 0])])
        self.assertEqual(told[4:], [[1], [1], [0]])

    def test_wrong_lengths(self):
        self.expect([[], [0], [0, 0, 0], [0, 0, 0, 0, 0], [1, 1, 0], [0] * 200], -22)

    def test_the_length_follows_the_model(self):
        told = h.run(self.START + [h.set_model("b"), h.is_estimable([1, 0, 0, 0]), h.is_estimable([1, 0, 0]), h.set_model("1-1"),
                                   h.is_estimable([1, 0, 0]), h.is_estimable([])])
        self.assertEqual(told[8:], [[-22], [1], [0], [-22], [1]])

    def test_24_columns(self):
        start = h.coded_factors([2, 3, 4], [0, 1, 2]) + [h.set_model("a*b*c"), h.full_factorial()]
        vector = list(range(-12, 12))
        told = h.run(start + [h.is_estimable(vector), h.remove_run(23), h.is_estimable(vector), h.is_estimable(vector[1:])])
        self.assertEqual(told[6:], [[1], [23], [0], [-22]])


class BesideTheReference(unittest.TestCase):
    """Many designs, with what a second reading of the document makes of them."""

    MODELS = ["1", "a", "a - 1", "a + b", "a + b - 1", "a * b", "a:b", "b:c - 1", "(a + b + c)^2", "a / b", "c + a:b - 1", "a*b*c"]
    DESIGNS = [[2, 2, 2], [3, 2, 2], [2, 4, 3], [5, 3, 2], [3, 5, 4], [4, 3, 3]]

    def runs_of(self, level_counts):
        every = [list(run) for run in product(*[range(levels) for levels in level_counts])]
        return [every[:24], every[::-3][:24], every[1::5] * 2, every[:4], every[-1:]]

    def check_design(self, text, level_counts, codings, runs):
        names = "abc"
        terms = reference.ordered(reference.terms_as_model(reference.read(text, names)), names)
        rows = [reference.design_row(terms, level_counts, codings, run) for run in runs]
        width = len(rows[0])
        if width > 24:
            return
        vectors = [[1] * width, [2 * entry - other for entry, other in zip(rows[0], rows[-1])], [0] * (width - 1) + [1]]
        start = h.coded_factors(level_counts, codings) + [h.set_model(text)] + [h.add_run(run) for run in runs]
        told = h.run(start + WHOLE + [h.is_estimable(vector) for vector in vectors])[len(start):]
        square = reference.information(rows, width)
        self.assertEqual(told, [[len(rows), width] + flat(rows), [reference.matrix_rank(rows)],
                                [width] + reference.aliased(rows, width), [width] + flat(square), [reference.determinant(square)]]
                         + [[reference.estimable(rows, vector)] for vector in vectors], (text, level_counts, codings, runs))

    def test_designs(self):
        for place, level_counts in enumerate(self.DESIGNS):
            for other, text in enumerate(self.MODELS):
                for step, runs in enumerate(self.runs_of(level_counts)):
                    codings = [(place + step) % 4, (other + step) % 4, (place + other) % 4]
                    self.check_design(text, level_counts, codings, runs)


if __name__ == "__main__":
    unittest.main()
