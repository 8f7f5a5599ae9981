"""Points 1 to 6 of the requirements, and a second reading of the document beside the program."""

import unittest
from itertools import product

from tests import helper as h
from tests import reference

NAMES = ["a", "b", "c"]
START = h.factors(NAMES)

# Formulas of various models, with and without the intercept.
PARTS = ["0", "1", "a", "1+b", "a-a", "a+b", "a:b", "b*c", "a/c", "1+a:b:c", "(a+b+c)^2", "1*a*b-b"]


def alone(text):
    """A formula whose terms as a model are the expansion of the text."""
    return f"0-1+({text})"


def formulas():
    """Formulas in which each operator stands within each other one, on either side."""
    small = ["a", "1", "b:c", "b-1", "a*c", "b/c", "(a+b)^2"]
    pairs = [f"({one}){sign}({two})" for one, two in product(small, small) for sign in "+-*/:"]
    texts = small + pairs + [f"({text})^{power}" for text in pairs for power in (1, 3)]
    texts += [f"({text}){sign}(c/b)" for text in pairs for sign in "+-*/:"]
    texts += [f"(b-c){sign}({text})" for text in pairs for sign in "+-*/:"]
    bare = [f"{one}{x}{two}{y}{three}" for one, two, three in product(["a", "0", "c^2"], repeat=3)
            for x in "+-*/:" for y in "+-*/:"]
    return texts + bare


class Algebra(unittest.TestCase):
    def same(self, pairs):
        told = h.run_behind(START, [h.compare(alone(one), alone(two)) for one, two in pairs])
        for pair, found in zip(pairs, told, strict=True):
            self.assertEqual(found, [0], pair)

    def test_commutative(self):
        self.same([(f"({x}){sign}({y})", f"({y}){sign}({x})") for x, y in product(PARTS, PARTS) for sign in "+:"])

    def test_associative(self):
        self.same([(f"(({x}){sign}({y})){sign}({z})", f"({x}){sign}(({y}){sign}({z}))")
                   for x, y, z in product(PARTS, repeat=3) for sign in "+:*"])

    def test_idempotent(self):
        self.same([(f"({x})+({x})", x) for x in PARTS])

    def test_distributive(self):
        self.same([(f"({x}):(({y})+({z}))", f"(({x}):({y}))+(({x}):({z}))") for x, y, z in product(PARTS, repeat=3)])

    def test_the_parts_differ(self):
        for place, one in enumerate(PARTS):
            for two in PARTS[:place]:
                answer = h.run(START + [h.compare(alone(one), alone(two))])[-1]
                self.assertEqual(answer == [0], {one, two} == {"0", "a-a"}, (one, two))


class CanonicalText(unittest.TestCase):
    def test_it_is_read_as_the_formula(self):
        texts = formulas()
        told = h.run_behind(START, [h.format_text(text) for text in texts])
        printed = [h.read_text(answer) for answer in told]
        for text, canonical in zip(texts, printed, strict=True):
            self.assertEqual(canonical, reference.canonical(reference.read(text, NAMES)), text)
            self.assertEqual(reference.read(canonical, NAMES), reference.read(text, NAMES), text)
        self.assertEqual(h.run_behind(START, [h.format_text(text) for text in printed]), told)
        same = h.run_behind(START, [h.compare(*pair) for pair in zip(texts, printed)])
        self.assertEqual(same, [[0]] * len(texts))


class Models(unittest.TestCase):
    def expect(self, texts, names):
        calls = [call for text in texts for call in (h.set_model(text), h.terms())]
        # The calls of one text stay in one request.
        told = h.run_behind([h.create()] * (2 - len(names) % 2) + h.factors(names)[1:], calls)
        for place, text in enumerate(texts):
            expected = reference.numbered(reference.terms_as_model(reference.read(text, names)), names)
            self.assertEqual(told[2 * place:2 * place + 2], [[len(expected)], [len(expected)] + expected], text)

    def test_terms_as_the_document_tells(self):
        self.expect(formulas(), NAMES)

    def test_other_numbers_of_the_factors(self):
        self.expect(formulas(), ["x", "y", "z", "c", "b", "a"])

    def test_six_factors(self):
        texts = ["(a+b+c+d+e+f)^2 - 1", "a:b:c:d:e:f", "(a/b/c):(d+e/f)", "f/(e+d):(c+b)", "(a+b+c)*(d+e+f)-1",
                 "a*(b+c/d):e+f", "(f+e+d)^3/a - e", "(a+f):(b+e):(c+d)", "(a+b+c+d)^4-(a+b+c+d)^2"]
        self.expect(texts, list("abcdef"))


class Closure(unittest.TestCase):
    def test_every_model_of_three_factors(self):
        every = ["1", "a", "b", "c", "a:b", "a:c", "b:c", "a:b:c"]
        for chosen in product([False, True], repeat=8):
            text = "0-1" + "".join(["+" + term for term, taken in zip(every, chosen, strict=True) if taken])
            model = reference.terms_as_model(reference.read(text, NAMES))
            closed = reference.subsets(model)
            expected = reference.numbered(closed, NAMES)
            told = h.run(START + [h.set_model(text), h.is_closed(), h.close(), h.terms(), h.is_closed()])[4:]
            count = len(expected)
            self.assertEqual(told, [[len(model)], [int(closed == model)], [count], [count] + expected, [1]], text)

    def test_six_factors(self):
        names = list("abcdef")
        for text in ("a:f-1", "a:b+c:d+e:f-1", "b:d:f+a:c:e", "a:b:c:d-1", "c:d:e:f+a"):
            expected = reference.numbered(reference.subsets(reference.terms_as_model(reference.read(text, names))), names)
            told = h.run(h.factors(names) + [h.set_model(text), h.close(), h.terms(), h.is_closed()])[8:]
            self.assertEqual(told, [[len(expected)], [len(expected)] + expected, [1]], text)


def recoded(codings):
    """Calls that give the factors these codings."""
    return [h.set_coding(factor, number) for factor, number in enumerate(codings)]


def some_runs(level_counts):
    """Lists of runs, from none to all of them and some twice."""
    every = [list(run) for run in product(*[range(levels) for levels in level_counts])]
    return [[], every[1:2], every[::2], every[1::3], every[:24], every[-5:] + every[:5] * 2, every[3:] + every[-1:]]


class AllCombinations(unittest.TestCase):
    CLOSED = ["1-1", "1", "a", "c", "a + b + c", "a*b", "b*c + a", "(a+b+c)^2", "a*b*c"]

    def test_no_column_of_a_closed_model_is_aliased(self):
        for level_counts in ([2, 2, 2], [3, 2, 2], [2, 4, 3], [2, 2, 5], [4, 2, 2]):
            for text in self.CLOSED:
                start = h.coded_factors(level_counts, [0, 0, 0]) + [h.set_model(text), h.is_closed(), h.full_factorial()]
                for codings in product(range(4), repeat=3):
                    told = h.run(start + recoded(codings) + [h.total_degrees(), h.aliased(), h.rank()])
                    self.assertEqual(told[5], [1], text)
                    columns = told[-3][0]
                    self.assertEqual(told[-2:], [[columns] + [0] * columns, [columns]], (level_counts, text, codings))

    def test_two_factors_with_many_levels(self):
        for level_counts in ([4, 5], [5, 4], [4, 4], [3, 5]):
            for codings in product(range(4), repeat=2):
                told = h.run(h.coded_factors(level_counts, codings) + [h.set_model("a*b"), h.full_factorial(), h.aliased()])
                columns = level_counts[0] * level_counts[1]
                self.assertEqual(told[-1], [columns] + [0] * columns, (level_counts, codings))


class RankAndCodings(unittest.TestCase):
    def ranks(self, level_counts, text, runs):
        """The rank of one design in every coding of its factors, and whether its model is closed."""
        start = h.coded_factors(level_counts, [0] * len(level_counts)) + [h.set_model(text), h.is_closed()]
        start += [h.add_run(run) for run in runs]
        closed = h.run(start)[2 + len(level_counts)]
        codings = list(product(range(4), repeat=len(level_counts)))
        calls = [recoded(numbers) + [h.rank()] for numbers in codings]
        return {h.run(start + call)[-1][0] for call in calls}, closed == [1]

    def test_a_closed_model_has_one_rank(self):
        for level_counts, text in [([2, 3], "a*b"), ([3, 3], "a + b"), ([4, 5], "a*b"), ([2, 2, 3], "(a+b+c)^2"),
                                   ([5, 2], "a"), ([3, 2, 4], "a*c + b")]:
            for runs in some_runs(level_counts):
                found, closed = self.ranks(level_counts, text, runs[:24])
                self.assertTrue(closed, text)
                self.assertEqual(len(found), 1, (level_counts, text, runs))

    def test_another_model_may_have_several(self):
        found, closed = self.ranks([2, 3], "a:b - 1", [[0, 1], [0, 2], [1, 1]])
        self.assertFalse(closed)
        self.assertEqual(found, {1, 2})


class SignOfTheDeterminant(unittest.TestCase):
    def test_positive_exactly_if_no_column_is_aliased(self):
        seen = set()
        for level_counts in ([2, 3, 2], [3, 2, 4], [5, 4, 2]):
            for text in ("1", "a-1", "a+b", "a+b-1", "a*b", "a:b-1", "c:b", "b/c-1", "(a+b+c)^2", "a+b:c-1", "1-1"):
                for place, runs in enumerate(some_runs(level_counts)):
                    start = h.coded_factors(level_counts, [place % 4, (place + 1) % 4, 2]) + [h.set_model(text)]
                    told = h.run(start + [h.add_run(run) for run in runs[:24]] + [h.aliased(), h.determinant()])
                    flags, value = told[-2][1:], told[-1][0]
                    self.assertGreaterEqual(value, 0)
                    self.assertEqual(value > 0, 1 not in flags, (level_counts, text, runs))
                    seen.add(value > 0)
        self.assertEqual(seen, {False, True})


if __name__ == "__main__":
    unittest.main()
