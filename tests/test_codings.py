"""coding: the entries of the four codings."""

import unittest

from tests import helper as h
from tests import reference

GREATEST = 4294967295


def expected(number, levels):
    table = reference.CODINGS[number, levels]
    return [levels, levels - 1] + [entry for entries in table for entry in entries]


class Coding(unittest.TestCase):
    def test_every_coding_at_every_number_of_levels(self):
        for number in range(4):
            for levels in range(2, 6):
                told = h.run(h.coded_factors([levels], [number]) + [h.coding(0)])
                self.assertEqual(told[-1], expected(number, levels), (number, levels))

    def test_entries_as_they_stand(self):
        told = h.run(h.coded_factors([3, 3, 3, 3, 4], [0, 1, 2, 3, 3]) + [h.coding(factor) for factor in range(5)])
        self.assertEqual(told[6:], [[3, 2, 0, 0, 1, 0, 0, 1], [3, 2, 1, 0, 0, 1, -1, -1], [3, 2, -1, -1, 1, -1, 0, 2],
                                    [3, 2, -1, 1, 0, -2, 1, 1], [4, 3, -3, 1, -1, -1, -1, 3, 1, -1, -3, 3, 1, 1]])

    def test_six_factors(self):
        level_counts, codings = [2, 5, 3, 4, 5, 2], [3, 2, 0, 1, 3, 1]
        told = h.run(h.coded_factors(level_counts, codings) + [h.coding(factor) for factor in range(7)])
        self.assertEqual(told[7:], [expected(*pair) for pair in zip(codings, level_counts)] + [[-2]])

    def test_no_such_factor(self):
        told = h.run(h.factors("ab") + [h.coding(2), h.coding(6), h.coding(GREATEST), h.coding(1)])
        self.assertEqual(told[3:], [[-2], [-2], [-2], [2, 1, 0, 1]])
        self.assertEqual(h.run([h.create(), h.coding(0)])[1], [-2])

    def test_set_coding_changes_it(self):
        told = h.run(h.coded_factors([4, 4], [0, 0]) + [h.set_coding(1, 2), h.coding(0), h.coding(1), h.set_coding(1, 3),
                                                        h.coding(1), h.set_coding(0, 1), h.coding(0), h.coding(1)])
        self.assertEqual(told[3:], [[0], expected(0, 4), expected(2, 4), [2], expected(3, 4), [0], expected(1, 4),
                                    expected(3, 4)])

    def test_a_refused_change_changes_nothing(self):
        told = h.run(h.coded_factors([3], [2]) + [h.set_coding(0, 4), h.set_coding(1, 0), h.set_coding(0, GREATEST),
                                                  h.coding(0)])
        self.assertEqual(told[2:], [[-22], [-2], [-22], expected(2, 3)])


if __name__ == "__main__":
    unittest.main()
