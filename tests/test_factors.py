"""add_factor and set_coding."""

import unittest

from tests import helper as h

GREATEST = 4294967295


def added(levels, coding, name):
    """The answer to add_factor on an object without factors."""
    return h.run([h.create(), h.add_factor(levels, coding, name)])[1]


class AddFactor(unittest.TestCase):
    def test_numbers_of_factors(self):
        self.assertEqual(h.run(h.factors("abcdef"))[1:], [[0], [1], [2], [3], [4], [5]])

    def test_levels(self):
        for levels in (2, 3, 4, 5):
            self.assertEqual(added(levels, 0, "a"), [0], levels)
        for levels in (0, 1, 6, 7, 256 + 2, GREATEST):
            self.assertEqual(added(levels, 0, "a"), [-22], levels)

    def test_codings(self):
        for coding in (0, 1, 2, 3):
            self.assertEqual(added(2, coding, "a"), [0], coding)
        for coding in (4, 5, 256, GREATEST):
            self.assertEqual(added(2, coding, "a"), [-22], coding)

    def test_names(self):
        for name in ("a", "z", "abcdefghijkl", "a_", "a0", "a9", "x__1_2", "z99999999999"):
            self.assertEqual(added(2, 0, name), [0], name)

    def test_no_names(self):
        wrong = ["", "abcdefghijklm", "A", "aA", "1", "1a", "_", "_a", "a b", " a", "a ", "a+", "a:b",
                 "a" * 200, "a`", "a{", "`", "{", "a/", "a;", "a^", "a."]
        wrong += [[0], [97, 0], [353], [97, 353], [GREATEST], [97, GREATEST], [255], [97, 128]]
        for name in wrong:
            self.assertEqual(added(2, 0, name), [-22], name)

    def test_a_name_twice(self):
        told = h.run(h.factors(["a", "ab"]) + [h.add_factor(3, 1, "a"), h.add_factor(2, 0, "ab"),
                                               h.add_factor(2, 0, "aa")])
        self.assertEqual(told[3:], [[-17], [-17], [2]])

    def test_a_seventh_factor(self):
        told = h.run(h.factors("abcdef") + [h.add_factor(2, 0, "g"), h.check("g"), h.check("f")])
        self.assertEqual(told[7:], [[-28], [3, 0], [0]])

    def test_order_of_errors(self):
        told = h.run(h.factors("abcdef") + [
            h.add_factor(1, 0, "a"), h.add_factor(2, 4, "a"), h.add_factor(6, 0, "g"),
            h.add_factor(2, 0, "G"), h.add_factor(2, 0, "a"), h.add_factor(2, 0, "g")])
        self.assertEqual(told[7:], [[-22], [-22], [-22], [-22], [-17], [-28]])

    def test_a_refused_factor_is_not_added(self):
        told = h.run(h.factors("a") + [
            h.add_factor(1, 0, "b"), h.check("b"), h.add_factor(2, 9, "b"), h.check("b"),
            h.add_factor(5, 3, "a"), h.set_coding(0, 0), h.set_model("a"), h.total_degrees(),
            h.set_coding(1, 0), h.add_factor(2, 0, "b")])
        self.assertEqual(told[2:], [[-22], [3, 0], [-22], [3, 0], [-17], [0], [2], [2], [-2], [1]])

    def test_the_model_stays(self):
        told = h.run(h.factors("a") + [h.set_model("a - 1"), h.add_factor(2, 0, "b"), h.terms(),
                                       h.total_degrees()])
        self.assertEqual(told[4:], [[1, 1], [1]])


class SetCoding(unittest.TestCase):
    def test_the_previous_coding(self):
        told = h.run([h.create(), h.add_factor(2, 3, "a"), h.add_factor(3, 1, "b"),
                      h.set_coding(0, 2), h.set_coding(0, 0), h.set_coding(1, 3), h.set_coding(0, 1),
                      h.set_coding(0, 1), h.set_coding(1, 0)])
        self.assertEqual(told[3:], [[3], [2], [1], [0], [1], [3]])

    def test_no_such_factor(self):
        told = h.run(h.factors("ab") + [h.set_coding(2, 0), h.set_coding(6, 0),
                                        h.set_coding(GREATEST, 0), h.set_coding(1, 0)])
        self.assertEqual(told[3:], [[-2], [-2], [-2], [0]])
        self.assertEqual(h.run([h.create(), h.set_coding(0, 0)])[1], [-2])

    def test_no_such_coding(self):
        told = h.run(h.factors("a") + [h.set_coding(0, 4), h.set_coding(0, GREATEST),
                                       h.set_coding(0, 3), h.set_coding(0, 4), h.set_coding(0, 0)])
        self.assertEqual(told[2:], [[-22], [-22], [0], [-22], [3]])

    def test_order_of_errors(self):
        self.assertEqual(h.run(h.factors("a") + [h.set_coding(1, 4)])[2], [-2])


if __name__ == "__main__":
    unittest.main()
