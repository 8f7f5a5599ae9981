"""format: the canonical text of a formula."""

import unittest

from tests import helper as h

NAMES = ["a", "b", "c", "long_name_12"]
START = h.factors(NAMES)


class Format(unittest.TestCase):
    def expect(self, cases):
        told = h.run_behind(START, [h.format_text(text) for text, expected in cases])
        for (text, expected), found in zip(cases, told, strict=True):
            self.assertEqual(found, h.told_text(expected), text)

    def test_spaces(self):
        self.expect([("a", "a"), ("a+b", "a + b"), ("a-b", "a - b"), ("a*b", "a * b"), ("a/b", "a / b"), ("a : b", "a:b"),
                     ("a ^ 2", "a^2"), ("  a  +  b  ", "a + b"), ("long_name_12*a", "long_name_12 * a")])

    def test_numbers(self):
        self.expect([("1", "1"), ("0", "0"), ("01", "1"), ("00", "0"), ("a^06", "a^6"), ("a^1", "a^1"), ("01^01", "1^1"),
                     ("0+a", "0 + a"), ("a-01", "a - 1")])

    def test_needless_parentheses(self):
        self.expect([("(a)", "a"), ("((a))", "a"), ("(1)", "1"), ("(a+b)", "a + b"), ("(a+b)+c", "a + b + c"),
                     ("(a-b)-c", "a - b - c"), ("(a*b)+c", "a * b + c"), ("a+(b*c)", "a + b * c"), ("a-(b/c)", "a - b / c"),
                     ("(a*b)*c", "a * b * c"), ("(a/b)*c", "a / b * c"), ("(a*b)/c", "a * b / c"), ("a*(b:c)", "a * b:c"),
                     ("(a:b)*c", "a:b * c"), ("(a:b):c", "a:b:c"), ("a+(b:c)", "a + b:c"), ("a:(b^2)", "a:b^2"),
                     ("(a^2):b", "a^2:b"), ("a*(b^2)", "a * b^2"), ("(a)^2", "a^2"), ("(a^2)+b", "a^2 + b"), ("(a)+(b)", "a + b"),
                     ("((a+b))*c", "(a + b) * c")])

    def test_sums_in_parentheses(self):
        self.expect([("a+(b+c)", "a + (b + c)"), ("a-(b+c)", "a - (b + c)"), ("a-(b-c)", "a - (b - c)"), ("a+(b-c)", "a + (b - c)"),
                     ("(a+b)*c", "(a + b) * c"), ("a*(b-c)", "a * (b - c)"), ("(a-b)/c", "(a - b) / c"), ("a/(b+c)", "a / (b + c)"),
                     ("(a+b):c", "(a + b):c"), ("a:(b-c)", "a:(b - c)"), ("(a+b)^2", "(a + b)^2"), ("(a-b)^2", "(a - b)^2")])

    def test_products_in_parentheses(self):
        self.expect([("a*(b*c)", "a * (b * c)"), ("a*(b/c)", "a * (b / c)"), ("a/(b*c)", "a / (b * c)"), ("a/(b/c)", "a / (b / c)"),
                     ("(a*b):c", "(a * b):c"), ("a:(b/c)", "a:(b / c)"), ("(a*b)^2", "(a * b)^2"), ("(a/b)^3", "(a / b)^3")])

    def test_interactions_in_parentheses(self):
        self.expect([("a:(b:c)", "a:(b:c)"), ("(a:b)^2", "(a:b)^2"), ("(a:b):(b:c)", "a:b:(b:c)")])

    def test_powers_in_parentheses(self):
        self.expect([("(a^2)^3", "(a^2)^3"), ("((a^2)^3)^4", "((a^2)^3)^4"), ("((a^02))^3:b", "(a^2)^3:b")])

    def test_the_text_is_not_simplified(self):
        self.expect([("a+a", "a + a"), ("b+a", "b + a"), ("b:a", "b:a"), ("a-a", "a - a"), ("a*0", "a * 0"), ("1+a", "1 + a")])

    def test_mixed(self):
        self.expect([("(a+b)^2-a:b", "(a + b)^2 - a:b"), ("a+b*c/(a-b):c^2", "a + b * c / (a - b):c^2"),
                     ("((a+(b))*((c)))", "(a + b) * c"), ("a-(b+(c-(a+b)))", "a - (b + (c - (a + b)))")])

    def test_long_and_deep_texts(self):
        self.expect([("(" * 99 + "a" + ")" * 99, "a"), ("a" + "+b" * 99, "a" + " + b" * 99),
                     ("(a+" * 49 + "b" + ")" * 49, "a + " + "(a + " * 48 + "b" + ")" * 48),
                     ("(" * 49 + "a" + "+b)" * 49, "a" + " + b" * 49),
                     ("(" * 49 + "a" + ")^6" * 49, "(" * 48 + "a^6" + ")^6" * 48)])

    def test_no_formula(self):
        for text in ("", "a +", "d", "a^7", "$", "a b", "(a", "(" * 200, [97, 353], [4294967295], "long_name_123"):
            self.assertEqual(h.run(START + [h.format_text(text)])[-1], [-22], text)

    def test_format_changes_nothing(self):
        told = h.run(START + [h.set_model("a"), h.format_text("a*b"), h.format_text("+"), h.terms()])
        self.assertEqual(told[-1], [2, 0, 1])


if __name__ == "__main__":
    unittest.main()
