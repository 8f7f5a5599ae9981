"""Points 1 to 3 of the requirements, and a second reading of the document beside the program."""

import unittest
from itertools import product

from tests import helper as h
from tests import reference

NAMES = ["a", "b", "c"]
START = h.factors(NAMES)

# Formulas of various models, with and without the intercept.
PARTS = ["0", "1", "a", "1+b", "a-a", "a+b", "a:b", "b*c", "a/c", "1+a:b:c", "(a+b+c)^2", "1*a*b-b"]


def alone(text):
    """A formula whose terms as a model are the expansion of the text."""
    return f"0-1+({text})"


def formulas():
    """Formulas in which each operator stands within each other one, on either side."""
    small = ["a", "1", "b:c", "b-1", "a*c", "b/c", "(a+b)^2"]
    pairs = [f"({one}){sign}({two})" for one, two in product(small, small) for sign in "+-*/:"]
    texts = small + pairs + [f"({text})^{power}" for text in pairs for power in (1, 3)]
    texts += [f"({text}){sign}(c/b)" for text in pairs for sign in "+-*/:"]
    texts += [f"(b-c){sign}({text})" for text in pairs for sign in "+-*/:"]
    bare = [f"{one}{x}{two}{y}{three}" for one, two, three in product(["a", "0", "c^2"], repeat=3)
            for x in "+-*/:" for y in "+-*/:"]
    return texts + bare


class Algebra(unittest.TestCase):
    def same(self, pairs):
        told = h.run_behind(START, [h.compare(alone(one), alone(two)) for one, two in pairs])
        for pair, found in zip(pairs, told, strict=True):
            self.assertEqual(found, [0], pair)

    def test_commutative(self):
        self.same([(f"({x}){sign}({y})", f"({y}){sign}({x})") for x, y in product(PARTS, PARTS) for sign in "+:"])

    def test_associative(self):
        self.same([(f"(({x}){sign}({y})){sign}({z})", f"({x}){sign}(({y}){sign}({z}))")
                   for x, y, z in product(PARTS, repeat=3) for sign in "+:*"])

    def test_idempotent(self):
        self.same([(f"({x})+({x})", x) for x in PARTS])

    def test_distributive(self):
        self.same([(f"({x}):(({y})+({z}))", f"(({x}):({y}))+(({x}):({z}))") for x, y, z in product(PARTS, repeat=3)])

    def test_the_parts_differ(self):
        for place, one in enumerate(PARTS):
            for two in PARTS[:place]:
                answer = h.run(START + [h.compare(alone(one), alone(two))])[-1]
                self.assertEqual(answer == [0], {one, two} == {"0", "a-a"}, (one, two))


class CanonicalText(unittest.TestCase):
    def test_it_is_read_as_the_formula(self):
        texts = formulas()
        told = h.run_behind(START, [h.format_text(text) for text in texts])
        printed = [h.read_text(answer) for answer in told]
        for text, canonical in zip(texts, printed, strict=True):
            self.assertEqual(canonical, reference.canonical(reference.read(text, NAMES)), text)
            self.assertEqual(reference.read(canonical, NAMES), reference.read(text, NAMES), text)
        self.assertEqual(h.run_behind(START, [h.format_text(text) for text in printed]), told)
        same = h.run_behind(START, [h.compare(*pair) for pair in zip(texts, printed)])
        self.assertEqual(same, [[0]] * len(texts))


class Models(unittest.TestCase):
    def expect(self, texts, names):
        calls = [call for text in texts for call in (h.set_model(text), h.terms())]
        # The calls of one text stay in one request.
        told = h.run_behind([h.create()] * (2 - len(names) % 2) + h.factors(names)[1:], calls)
        for place, text in enumerate(texts):
            expected = reference.numbered(reference.terms_as_model(reference.read(text, names)), names)
            self.assertEqual(told[2 * place:2 * place + 2], [[len(expected)], [len(expected)] + expected], text)

    def test_terms_as_the_document_tells(self):
        self.expect(formulas(), NAMES)

    def test_other_numbers_of_the_factors(self):
        self.expect(formulas(), ["x", "y", "z", "c", "b", "a"])

    def test_six_factors(self):
        texts = ["(a+b+c+d+e+f)^2 - 1", "a:b:c:d:e:f", "(a/b/c):(d+e/f)", "f/(e+d):(c+b)", "(a+b+c)*(d+e+f)-1",
                 "a*(b+c/d):e+f", "(f+e+d)^3/a - e", "(a+f):(b+e):(c+d)", "(a+b+c+d)^4-(a+b+c+d)^2"]
        self.expect(texts, list("abcdef"))


class Closure(unittest.TestCase):
    def test_every_model_of_three_factors(self):
        every = ["1", "a", "b", "c", "a:b", "a:c", "b:c", "a:b:c"]
        for chosen in product([False, True], repeat=8):
            text = "0-1" + "".join(["+" + term for term, taken in zip(every, chosen, strict=True) if taken])
            model = reference.terms_as_model(reference.read(text, NAMES))
            closed = reference.subsets(model)
            expected = reference.numbered(closed, NAMES)
            told = h.run(START + [h.set_model(text), h.is_closed(), h.close(), h.terms(), h.is_closed()])[4:]
            count = len(expected)
            self.assertEqual(told, [[len(model)], [int(closed == model)], [count], [count] + expected, [1]], text)

    def test_six_factors(self):
        names = list("abcdef")
        for text in ("a:f-1", "a:b+c:d+e:f-1", "b:d:f+a:c:e", "a:b:c:d-1", "c:d:e:f+a"):
            expected = reference.numbered(reference.subsets(reference.terms_as_model(reference.read(text, names))), names)
            told = h.run(h.factors(names) + [h.set_model(text), h.close(), h.terms(), h.is_closed()])[8:]
            self.assertEqual(told, [[len(expected)], [len(expected)] + expected, [1]], text)


if __name__ == "__main__":
    unittest.main()
