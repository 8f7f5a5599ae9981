"""set_model, terms, term_text, model_text, degrees, total_degrees, is_closed, close, compare."""

import unittest
from itertools import product

from tests import helper as h

GREATEST = 4294967295


def model(text, names="abc"):
    """The terms that set_model makes of a text."""
    told = h.run(h.factors(names) + [h.set_model(text), h.terms()])
    assert told[-2] == [told[-1][0]] and told[-1][0] == len(told[-1]) - 1, told
    return told[-1][1:]


class Models(unittest.TestCase):
    def expect(self, cases):
        for text, expected in cases:
            self.assertEqual(model(text), expected, text)


class SetModel(Models):
    def test_names_and_numbers(self):
        self.expect([("a", [0, 1]), ("b", [0, 2]), ("c", [0, 4]), ("1", [0]), ("0", [0]), ("01", [0]),
                     ("00", [0]), (" ( c ) ", [0, 4])])

    def test_sums(self):
        self.expect([("a+b", [0, 1, 2]), ("b + a", [0, 1, 2]), ("a+a", [0, 1]), ("a+1", [0, 1]),
                     ("a+0", [0, 1]), ("0+a", [0, 1]), ("a+b+c", [0, 1, 2, 4])])

    def test_differences(self):
        self.expect([("a+b-a", [0, 2]), ("a-a", [0]), ("a-b", [0, 1]), ("a*b-a:b", [0, 1, 2]),
                     ("a-b+b", [0, 1, 2]), ("a*b-(a+b)", [0, 3]), ("a*b-a+b", [0, 2, 3]),
                     ("a-(b-b)", [0, 1]), ("a-(a-a)", [0, 1]), ("a-(a-b)", [0])])

    def test_interactions(self):
        self.expect([("a:b", [0, 3]), ("b:a", [0, 3]), ("a:a", [0, 1]), ("a:b:c", [0, 7]), ("a:1", [0, 1]),
                     ("a:0", [0]), ("0:a", [0]), ("(a+b):c", [0, 5, 6]), ("(a+b):(a+c)", [0, 1, 3, 5, 6]),
                     ("(a+1):b", [0, 2, 3])])

    def test_crossing(self):
        self.expect([("a*b", [0, 1, 2, 3]), ("a*a", [0, 1]), ("a*b*c", [0, 1, 2, 4, 3, 5, 6, 7]),
                     ("a*0", [0, 1]), ("a*1", [0, 1]), ("(a+b)*c", [0, 1, 2, 4, 5, 6]),
                     ("a*b:c", [0, 1, 6, 7]), ("a*b+c", [0, 1, 2, 4, 3]), ("a+b*c", [0, 1, 2, 4, 6])])

    def test_nesting(self):
        self.expect([("a/b", [0, 1, 3]), ("b/a", [0, 2, 3]), ("a/b/c", [0, 1, 3, 7]), ("a/(b+c)", [0, 1, 3, 5]),
                     ("(a+b)/c", [0, 1, 2, 7]), ("a/0", [0, 1]), ("0/a", [0, 1]), ("1/a", [0, 1]),
                     ("a/1", [0, 1]), ("(a+1)/b", [0, 1, 3]), ("a/(b/c)", [0, 1, 3, 7]),
                     ("(a:b)/c", [0, 3, 7]), ("a*b/c", [0, 1, 2, 3, 7]), ("a/b*c", [0, 1, 4, 3, 5, 7]),
                     ("(a-a)/b", [0, 2]), ("(a+b)/1", [0, 1, 2, 3]), ("a/b:c", [0, 1, 7])])

    def test_powers(self):
        self.expect([("a^1", [0, 1]), ("a^6", [0, 1]), ("(a+b)^1", [0, 1, 2]), ("(a+b)^2", [0, 1, 2, 3]),
                     ("(a+b+c)^2", [0, 1, 2, 4, 3, 5, 6]), ("(a+b+c)^3", [0, 1, 2, 4, 3, 5, 6, 7]),
                     ("(a+b+c)^02", [0, 1, 2, 4, 3, 5, 6]), ("a:b^2", [0, 3]), ("0^2", [0]), ("1^3", [0]),
                     ("((a+b+c)^2)^2 - 1", [1, 2, 4, 3, 5, 6, 7])])

    def test_powers_of_six_factors(self):
        names = "abcdef"
        for exponent, size in product(range(1, 7), range(1, 7)):
            power = f"(a+b+c+d+e+f)^{exponent}"
            told = h.run(h.factors(names) + [h.compare(power, f"{power}+{':'.join(names[-size:])}")])
            self.assertEqual(told[-1], [0 if size <= exponent else 1], (exponent, size))

    def test_the_intercept(self):
        self.expect([("a+b-1", [1, 2]), ("a-1+b", [1, 2]), ("a-1", [1]), ("1-1", []), ("0-1", []), ("a-1+1", [0, 1]),
                     ("0+a-1", [1]), ("a:b-1", [3]), ("a*b-1", [1, 2, 3]), ("a-(1-1)", [0, 1]), ("a-(b-1)", [0, 1]),
                     ("a+(b-1)", [0, 1, 2]), ("(a-1)", [1]), ("((a-1))", [1]), ("(a-1)+b", [1, 2]), ("((a)-1)+(b)", [1, 2]),
                     ("(a-1):b", [0, 3]), ("(a-1)*b", [0, 1, 2, 3]), ("(a-1)^2", [0, 1]), ("(a-1)/b", [0, 1, 3]),
                     ("(a-1)+(b-1)", [1, 2]), ("a-a-1", []), ("1-1+a", [1]), ("(a*b-1)-a", [2, 3])])

    def test_the_order_of_terms(self):
        told = model("(d+c+b+a)^4", "abcd")
        self.assertEqual(told, [0, 1, 2, 4, 8, 3, 5, 9, 6, 10, 12, 7, 11, 13, 14, 15])
        told = model("e:f+d:e:f+a:f+b:c+a:b+c:d:e+a:e:f+b:c:d+f+a:b:c:d:e:f+b:c:d:e:f+c:d:e:f", "abcdef")
        self.assertEqual(told, [0, 32, 3, 33, 6, 48, 49, 14, 28, 56, 60, 62, 63])

    def test_the_formula_replaces_the_model(self):
        told = h.run(h.factors("ab") + [h.set_model("a*b"), h.set_model("b"), h.terms(), h.set_model("1-1"), h.terms()])
        self.assertEqual(told[3:], [[4], [2], [2, 0, 2], [0], [0]])

    def test_no_formula(self):
        for text in ("", "a +", "d", "a^7", "a^0", "A", "a b", "(a", "a)", [97, 353], "abcdefghijklm", "2", "100"):
            told = h.run(h.factors("ab") + [h.set_model("b"), h.set_model(text), h.terms()])
            self.assertEqual(told[3:], [[2], [-22], [2, 0, 2]], text)

    def test_24_columns(self):
        start = [h.create(), h.add_factor(5, 0, "a"), h.add_factor(5, 0, "b"), h.add_factor(3, 0, "c"),
                 h.add_factor(4, 0, "d"), h.add_factor(2, 0, "e")]
        cases = [("a*b-1", 24, 3), ("a*b", 25, 4), ("a*b-a", 21, 3), ("a:b:e", 17, 2), ("a:b:c-1", 32, 1),
                 ("a*b-1+e", 25, 4), ("a*b-a+c+e", 24, 5), ("a:c:d-1", 24, 1), ("a:c:d", 25, 2), ("a:c:d:e-1", 24, 1)]
        for text, columns, count in cases:
            told = h.run(start + [h.set_model("e"), h.set_model(text), h.terms(), h.total_degrees()])[7:]
            if columns <= 24:
                self.assertEqual([told[0], told[1][:1], told[2]], [[count], [count], [columns]], text)
            else:
                self.assertEqual(told, [[-28], [2, 0, 16], [2]], text)

    def test_no_formula_comes_before_too_many_columns(self):
        told = h.run(h.factors("abcdef", 5) + [h.set_model("a*b*c*d*e*f +"), h.set_model("a*b*c*d*e*f")])
        self.assertEqual(told[7:], [[-22], [-28]])

    def test_long_and_deep_texts(self):
        deep = "(" * 98 + "a-1" + ")" * 98
        self.assertEqual(model(deep), [1])
        self.assertEqual(model("(" * 49 + "a" + "+b)" * 49), [0, 1, 2])
        self.assertEqual(model("(a-" * 49 + "b" + ")" * 49), [0, 1])
        self.assertEqual(model("b-" + "(a-" * 48 + "b" + ")" * 48), [0, 2])
        self.assertEqual(model("a" + ":b" * 99), [0, 3])
        self.assertEqual(model("(a/" * 49 + "b" + ")" * 49), [0, 1, 3])
        self.assertEqual(model("(" * 45 + "a+b+c" + ")^6" * 45 + "-1"), [1, 2, 4, 3, 5, 6, 7])


class Texts(unittest.TestCase):
    def test_term_text(self):
        start = [h.create()] + [h.add_factor(2, 0, name) for name in ("zeta", "b", "x_1")]
        told = h.run(start + [h.set_model("x_1*b*zeta")] + [h.term_text(index) for index in range(9)])
        expected = ["1", "zeta", "b", "x_1", "zeta:b", "zeta:x_1", "b:x_1", "zeta:b:x_1"]
        self.assertEqual(told[5:], [h.told_text(text) for text in expected] + [[-2]])

    def test_term_text_of_long_names(self):
        names = [letter * 12 for letter in "abcdef"]
        told = h.run(h.factors(names) + [h.set_model(":".join(reversed(names)) + "-1"), h.term_text(0), h.model_text()])
        self.assertEqual(told[-2:], [h.told_text(":".join(names))] * 2)

    def test_no_such_term(self):
        told = h.run(h.factors("a") + [h.term_text(1), h.term_text(GREATEST), h.term_text(0), h.set_model("1-1"),
                                       h.term_text(0), h.set_model("a-1"), h.term_text(0), h.term_text(1)])
        self.assertEqual(told[2:], [[-2], [-2], [1, 49], [0], [-2], [1], [1, 97], [-2]])

    def test_model_text(self):
        cases = [("a*b", "1 + a + b + a:b"), ("b+a", "1 + a + b"), ("1", "1"), ("0", "1"), ("1-1", "0"), ("a-1", "a"),
                 ("c:b:a+c-1", "c + a:b:c"), ("(a+b+c)^2-1", "a + b + c + a:b + a:c + b:c")]
        for text, expected in cases:
            told = h.run(h.factors("abc") + [h.set_model(text), h.model_text()])
            self.assertEqual(told[-1], h.told_text(expected), text)

    def test_the_text_of_a_model_is_read_as_this_model(self):
        for text in ("a*b", "a/b - 1", "a:b", "(a+b+c)^2 - a", "a - 1", "1", "a*b*c - 1"):
            told = h.run(h.factors("abc") + [h.set_model(text), h.terms(), h.model_text()])
            again = "0 - 1 + " + h.read_text(told[-1])
            self.assertEqual(model(again), told[-2][1:], text)


class Degrees(unittest.TestCase):
    START = [h.create(), h.add_factor(2, 0, "a"), h.add_factor(3, 1, "b"), h.add_factor(4, 2, "c"),
             h.add_factor(5, 3, "d")]

    def test_degrees(self):
        told = h.run(self.START + [h.set_model("a+b+c+d+a:b+b:c")] + [h.degrees(index) for index in range(7)])
        self.assertEqual(told[5:], [[7], [1], [1], [2], [3], [4], [2], [6]])
        told = h.run(self.START + [h.set_model("b:d + a:b:c - 1"), h.degrees(0), h.degrees(1), h.degrees(2)])
        self.assertEqual(told[5:], [[2], [8], [6], [-2]])

    def test_no_such_term(self):
        told = h.run(self.START + [h.degrees(0), h.degrees(1), h.degrees(GREATEST), h.set_model("1-1"), h.degrees(0)])
        self.assertEqual(told[5:], [[1], [-2], [-2], [0], [-2]])

    def test_total_degrees(self):
        cases = [("1", 1), ("1-1", 0), ("a", 2), ("b", 3), ("c", 4), ("d", 5), ("a+b+c+d", 11), ("a*b*c", 24), ("b:c:d-1", 24),
                 ("a:b:c:d-1", 24), ("c*d", 20)]
        for text, expected in cases:
            told = h.run(self.START + [h.set_model(text), h.total_degrees()])
            self.assertEqual(told[-1], [expected], text)

    def test_codings_do_not_matter(self):
        told = h.run(self.START + [h.set_model("a*b"), h.set_coding(1, 3), h.total_degrees(), h.degrees(3)])
        self.assertEqual(told[-2:], [[6], [2]])


class Closure(Models):
    def test_is_closed(self):
        cases = [("1", 1), ("1-1", 1), ("a", 1), ("a-1", 0), ("a*b", 1), ("a:b", 0), ("a+a:b", 0), ("b+a:b", 0),
                 ("a*b-1", 0), ("a+b+a:b", 1), ("(a+b+c)^2", 1), ("a*b*c-a:b", 0), ("a*b*c-c", 0), ("a*b+c", 1)]
        for text, expected in cases:
            told = h.run(h.factors("abc") + [h.set_model(text), h.is_closed()])
            self.assertEqual(told[-1], [expected], text)

    def test_close(self):
        cases = [("1-1", []), ("a-1", [0, 1]), ("a:b-1", [0, 1, 2, 3]), ("a:b:c", [0, 1, 2, 4, 3, 5, 6, 7]),
                 ("a:c+b", [0, 1, 2, 4, 5]), ("a:b+b:c-1", [0, 1, 2, 4, 3, 6]), ("a*b", [0, 1, 2, 3])]
        for text, expected in cases:
            told = h.run(h.factors("abc") + [h.set_model(text), h.close(), h.terms(), h.is_closed(), h.close()])
            count = [len(expected)]
            self.assertEqual(told[-4:], [count, count + expected, [1], count], text)

    def test_close_with_too_many_columns(self):
        told = h.run([h.create(), h.add_factor(5, 0, "a"), h.add_factor(5, 0, "b"), h.set_model("a:b-1"), h.close(),
                      h.terms(), h.is_closed(), h.total_degrees()])
        self.assertEqual(told[3:], [[1], [-28], [1, 3], [0], [16]])
        told = h.run(h.factors("abcde") + [h.set_model("a:b:c:d:e"), h.close(), h.terms()])
        self.assertEqual(told[6:], [[2], [-28], [2, 0, 31]])

    def test_close_with_24_columns(self):
        told = h.run([h.create(), h.add_factor(2, 0, "a"), h.add_factor(3, 0, "b"), h.add_factor(4, 0, "c"),
                      h.set_model("a:b:c-1"), h.close(), h.total_degrees()])
        self.assertEqual(told[4:], [[1], [8], [24]])


class Compare(unittest.TestCase):
    def expect(self, cases):
        told = h.run_behind(h.factors("abc"), [h.compare(first, second) for first, second, answer in cases])
        for (first, second, answer), found in zip(cases, told, strict=True):
            self.assertEqual(found, [answer], (first, second))

    def test_compare(self):
        self.expect([("a", "a", 0), ("a+b", "b+a", 0), ("a", "a+b", 1), ("a+b", "a", 2), ("a", "b", 3), ("a*b", "a+b", 2),
                     ("a+b", "a*b", 1), ("a:b", "a+b", 3), ("1", "0", 0), ("1-1", "1", 1), ("1", "1-1", 2), ("1-1", "0-1", 0),
                     ("a", "a-1", 2), ("a-1", "a", 1), ("a-1", "1", 3), ("a-1", "1-1", 2), ("(a+b)^2", "a*b", 0),
                     ("a/b", "a+a:b", 0), ("a/b", "b/a", 3), ("(a-1)", "a-1", 0), ("a - 1 + b", "a + b - 1", 0)])

    def test_no_column_limit(self):
        told = h.run(h.factors("abcdef", 5) + [h.compare("a*b*c*d*e*f", "(a+b+c+d+e+f)^6"),
                                               h.compare("a*b*c*d*e*f", "(a+b+c+d+e+f)^5"),
                                               h.compare("(a+b+c+d+e+f)^5", "a*b*c*d*e*f-1")])
        self.assertEqual(told[7:], [[0], [2], [3]])

    def test_no_formula(self):
        self.expect([("a +", "a", -22), ("a", "a +", -22), ("", "", -22), ("d", "a", -22), ("a", "d", -22), ("a", "a^0", -22),
                     ("a", [97, 353], -22), ([353], "a", -22)])

    def test_compare_changes_nothing(self):
        told = h.run(h.factors("ab") + [h.set_model("a"), h.compare("a", "b"), h.compare("a*b", "+"), h.terms()])
        self.assertEqual(told[3:], [[2], [3], [-22], [2, 0, 1]])


if __name__ == "__main__":
    unittest.main()
