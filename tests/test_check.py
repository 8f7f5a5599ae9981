"""check: the tokens, the grammar, and the reason and position of a failure."""

import unittest
from itertools import product

from tests import helper as h
from tests import reference

NAMES = ["a", "b", "c", "x1_y", "abcdefghijkl"]
START = h.factors(NAMES)


class Check(unittest.TestCase):
    def expect(self, cases):
        told = h.run_behind(START, [h.check(text) for text, answer in cases])
        for (text, answer), found in zip(cases, told, strict=True):
            self.assertEqual(found, answer, text)

    def test_formulas(self):
        texts = ["a", "1", "0", "a+b", "a-b", "a*b", "a/b", "a:b", "a^2", "(a)", "((a))", "a+b-c*a/b:c",
                 "(a+b)^2", "x1_y", "abcdefghijkl", "a^1", "a^6", " a ", "  (  a  +  b  )  ^  2  ",
                 "1+0", "(1)", "1^2", "0:0", "(a^2)^3", "a^2:b^3", "a:(b:c)", "a/(b*c)"]
        self.expect([(text, [0]) for text in texts])

    def test_the_longest_token_is_taken(self):
        self.expect([("ab", [3, 0]), ("a b", [2, 2]), ("a1", [3, 0]), ("a_", [3, 0]),
                     ("1a", [2, 1]), ("1 0", [2, 2]), ("10", [2, 0]), ("a^12", [4, 2]),
                     ("a^1 2", [2, 4]), ("x1_ y", [3, 0]), ("x1 _y", [1, 3])])

    def test_long_names(self):
        self.expect([("abcdefghijkl", [0]), ("abcdefghijkm", [3, 0]), ("abcdefghijklm", [1, 0]),
                     ("a+abcdefghijklm", [1, 2]), ("a + abcdefghijkl", [0]), ("abcdefghijkl1", [1, 0]),
                     ("abcdefghijkl_", [1, 0]), ("abcdefghijkl a", [2, 13]), ("a" * 200, [1, 0])])

    def test_long_numbers(self):
        self.expect([("01", [0]), ("00", [0]), ("1", [0]), ("11", [2, 0]), ("02", [2, 0]),
                     ("001", [1, 0]), ("000", [1, 0]), ("100", [1, 0]), ("a+123", [1, 2]),
                     ("a^001", [1, 2]), ("a^100", [1, 2]), ("0" * 200, [1, 0]), ("12 3", [2, 0])])

    def test_exponents(self):
        self.expect([(f"a^{number}", [0]) for number in range(1, 7)])
        self.expect([(f"a^0{number}", [0]) for number in range(1, 7)])
        self.expect([("a^0", [4, 2]), ("a^00", [4, 2]), ("a^7", [4, 2]), ("a^07", [4, 2]),
                     ("a^10", [4, 2]), ("a^99", [4, 2]), ("a ^ 7", [4, 4]), ("(a+b)^ 0", [4, 7]),
                     ("a^b", [2, 2]), ("a^zz", [2, 2]), ("a^", [2, 2]), ("a^ ", [2, 3]),
                     ("a^(2)", [2, 2]), ("a^-1", [2, 2]), ("a^^2", [2, 2]), ("a^2^3", [2, 3]),
                     ("a^2^7", [2, 3]), ("a^7^2", [4, 2]), ("1^1", [0]), ("^2", [2, 0])])

    def test_no_token(self):
        self.expect([("a & b", [1, 2]), ("A", [1, 0]), ("aB", [1, 1]), ("_a", [1, 0]), ("a+_", [1, 2]),
                     ("1_", [1, 1]), ("a.b", [1, 1]), ("a\tb", [1, 1]), ("a\n", [1, 1]), ("a,b", [1, 1]),
                     ("[a]", [1, 0]), ("a;b", [1, 1]), ("$ %", [1, 0]), ("a`", [1, 1]), ("a{", [1, 1])])

    def test_what_begins_no_token_comes_first(self):
        self.expect([("+ + $", [1, 4]), ("zz & a", [1, 3]), ("a^7 ?", [1, 4]), (") A B", [1, 2]),
                     ("a^9 zzz 123", [1, 8]), ("123 $", [1, 0]), ("a b c (", [2, 2])])

    def test_elements_that_are_no_bytes_of_a_token(self):
        self.expect([([97, 353], [1, 1]), ([353], [1, 0]), ([4294967295], [1, 0]), ([97, 43, 256 + 98], [1, 2]),
                     ([97, 288, 97], [1, 1]), ([0], [1, 0]), ([97, 0], [1, 1]), ([128], [1, 0]),
                     ([97, 32, 299, 32, 98], [1, 2]), ([255, 97], [1, 0]), ([304], [1, 0])])

    def test_every_single_element(self):
        for element in range(300):
            expected = [1, 0]
            if element < 128 and chr(element) in " (":
                expected = [2, 1]
            elif element < 128 and chr(element) in "+-*/:^)23456789":
                expected = [2, 0]
            elif element < 128 and chr(element) in "abc01":
                expected = [0]
            elif 97 <= element <= 122:
                expected = [3, 0]
            self.expect([([element], expected)])

    def test_tokens_that_do_not_fit(self):
        self.expect([("", [2, 0]), ("   ", [2, 3]), ("a +", [2, 3]), ("a + ", [2, 4]), ("+a", [2, 0]),
                     ("a + + b", [2, 4]), ("a b", [2, 2]), ("(a", [2, 2]), ("(a ", [2, 3]), ("a)", [2, 1]),
                     (")", [2, 0]), ("()", [2, 1]), ("(", [2, 1]), ("a()", [2, 1]), ("(a)(b)", [2, 3]),
                     ("(a) b", [2, 4]), ("a (b)", [2, 2]), ("(a+)", [2, 3]), ("((a)", [2, 4]),
                     ("(a))", [2, 3]), ("2", [2, 0]), ("a+2", [2, 2]), ("a:", [2, 2]), ("a//b", [2, 2]),
                     ("a1 1", [3, 0]), ("a 1", [2, 2]), ("1 a", [2, 2]), ("a^2 b", [2, 4]), ("a^2(b)", [2, 3]),
                     ("a^2)", [2, 3]), ("-a", [2, 0]), ("a*-b", [2, 2]), (":", [2, 0]), ("(^2)", [2, 1])])

    def test_unknown_names(self):
        self.expect([("d", [3, 0]), ("a+d", [3, 2]), ("(d", [3, 1]), ("a d", [2, 2]), ("a ^ d", [2, 4]),
                     ("d e", [3, 0]), ("a + d )", [3, 4]), ("x1_y1", [3, 0]), ("abc", [3, 0])])

    def test_the_first_failure_counts(self):
        self.expect([("a + zz + )", [3, 4]), ("a b zz", [2, 2]), ("a^7 zz", [4, 2]), ("zz^7", [3, 0]),
                     ("(a^0", [4, 3]), ("(zz", [3, 1]), ("+ zz", [2, 0])])

    def test_without_factors(self):
        told = h.run([h.create(), h.check("a"), h.check("1"), h.check("1 - 1"), h.check("1 a")])
        self.assertEqual(told[1:], [[3, 0], [0], [0], [2, 2]])

    def test_200_bytes(self):
        self.expect([("(" * 99 + "a" + ")" * 99 + " ", [0]), ("(" * 99 + "a" + ")" * 100, [2, 199]),
                     ("(" * 100 + "a" + ")" * 99, [2, 200]), ("(" * 200, [2, 200]), (")" * 200, [2, 0]),
                     ("(" * 199 + "a", [2, 200]), ("a+" * 100, [2, 200]), ("a" + "+a" * 99 + " ", [0]),
                     ("(a+" * 49 + "b" + ")" * 49 + "   ", [0]), (" " * 199 + "a", [0]), (" " * 200, [2, 200]),
                     ("(" * 66 + "a" + "^6)" * 44 + "+", [2, 66 + 1 + 132 + 1]),
                     ("(" * 49 + "a" + ")^6" * 49 + "^2", [2, 49 + 1 + 147]), ("(" * 49 + "a" + ")^6" * 50, [2, 197])])

    def test_check_changes_nothing(self):
        told = h.run(START + [h.check("a*b"), h.check("a +"), h.terms()])
        self.assertEqual(told[-1], [1, 0])

    def test_all_short_texts(self):
        parts = ["a", "z", "1", "2", "^", "(", ")", "+", ":", "*", " "]
        texts = ["".join(chosen) for length in range(6) for chosen in product(parts, repeat=length)
                 if length < 5 or chosen[1] in "^:" or chosen[0] == "("]
        told = h.run_behind(START, [h.check(text) for text in texts])
        for text, found in zip(texts, told, strict=True):
            self.assertEqual(found, reference.checked(text, NAMES), text)


if __name__ == "__main__":
    unittest.main()
