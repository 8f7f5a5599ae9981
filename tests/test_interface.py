"""How calls are handed in and answers told; create; -11."""

import sys
import unittest

from modelformulas.designs import answers
from tests import helper as h

EVERY_CALL = [
    h.add_factor(2, 0, "a"), h.set_coding(0, 1), h.check("a"), h.set_model("a"), h.terms(),
    h.term_text(0), h.format_text("a"), h.model_text(), h.degrees(0), h.total_degrees(),
    h.is_closed(), h.close(), h.compare("a", "a"), h.coding(0), h.add_run([0]), h.remove_run(0),
    h.full_factorial(), h.clear_runs(), h.get_run(0), h.row_of([1]), h.full_factorial(), h.matrix(), h.rank(),
    h.aliased(), h.information(), h.determinant(), h.is_estimable([1, 0]), h.summary(),
]

SESSION = [
    (h.create(), [0]),
    (h.add_factor(2, 1, "a"), [0]),
    (h.add_factor(3, 0, "b"), [1]),
    (h.set_model("a * b"), [4]),
    (h.terms(), [4, 0, 1, 2, 3]),
    (h.model_text(), [15, 49, 32, 43, 32, 97, 32, 43, 32, 98, 32, 43, 32, 97, 58, 98]),
    (h.format_text("(a+b)^2-a:b"),
     [15, 40, 97, 32, 43, 32, 98, 41, 94, 50, 32, 45, 32, 97, 58, 98]),
    (h.set_model("(a+b)^2-a:b"), [3]),
    (h.check("a + c"), [3, 4]),
    (h.check("a +"), [2, 3]),
    (h.check("a^7"), [4, 2]),
    (h.degrees(2), [2]),
    (h.total_degrees(), [4]),
    (h.coding(0), [2, 1, 1, -1]),
    (h.coding(1), [3, 2, 0, 0, 1, 0, 0, 1]),
    (h.full_factorial(), [6]),
    (h.rank(), [4]),
    (h.row_of([1, 2]), [4, 1, -1, 0, 1]),
    (h.information(), [4, 6, 0, 2, 2, 0, 6, 0, 0, 2, 0, 2, 0, 2, 0, 0, 2]),
    (h.determinant(), [48]),
    (h.remove_run(5), [5]),
    (h.aliased(), [4, 0, 0, 0, 0]),
    (h.is_estimable([0, 0, 1, -1]), [1]),
    (h.compare("a*b", "a + b"), [2]),
    (h.clear_runs(), [5]),
    (h.add_run([0, 0]), [1]),
    (h.rank(), [1]),
    (h.aliased(), [4, 0, 1, 1, 1]),
    (h.is_closed(), [1]),
    (h.set_model("a:b - 1"), [1]),
    (h.is_closed(), [0]),
    (h.close(), [4]),
]


class Lists(unittest.TestCase):
    def test_numbers_as_they_stand(self):
        calls = [0, 1, 2, 1, 1, 97, 1, 3, 0, 1, 98, 4, 5, 97, 32, 42, 32, 98, 5, 3, 1, 99, 3, 1, 97,
                 13, 1, 97, 3, 97, 42, 98, 2, 5, 0, 9, 3, 8]
        told = [1, 0, 1, 0, 1, 1, 1, 4, 5, 4, 0, 1, 2, 3, 2, 3, 0, 1, 0,
                1, 1, 1, -2, 1, 2, 16, 15, 49, 32, 43, 32, 97, 32, 43, 32, 98, 32, 43, 32, 97, 58, 98]
        self.assertEqual(answers(calls), told)

    def test_numbers_of_runs_as_they_stand(self):
        calls = [0, 1, 3, 2, 1, 97, 4, 1, 97, 14, 0, 15, 1, 2, 15, 1, 0, 15, 1, 3, 19, 0, 16, 1, 20, 1, 1, 21, 22, 23, 24,
                 25, 26, 3, -2, 0, -4, 26, 0, 18, 17, 27]
        told = [1, 0, 1, 0, 1, 2, 8, 3, 2, -1, -1, 1, -1, 0, 2, 1, 1, 1, 2, 1, -22, 2, 1, 2, 1, 1, 4, 3, 1, 1, -1,
                5, 1, 3, 1, 0, 2, 1, 1, 4, 3, 0, 1, 1, 10, 3, 1, 0, 2, 0, 0, 0, 2, 0, 4, 1, 0, 1, 1, 1, -22,
                1, 1, 1, 3, 4, 1, 2, 3, 3]
        self.assertEqual(answers(calls), told)

    def test_session_of_the_document(self):
        told = h.run([call for call, answer in SESSION])
        for (call, answer), found in zip(SESSION, told, strict=True):
            self.assertEqual(found, answer, call)

    def test_empty_rows(self):
        self.assertEqual(answers([0, 3, 0, 13, 0, 0, 4, 0, 7, 0, 1, 2, 0, 0, 3, 1, 49]),
                         [1, 0, 2, 2, 0, 1, -22, 1, -22, 1, -22, 1, -22, 1, 0])

    def test_200_calls(self):
        told = h.run(h.factors("a") + [h.check("a")] * 198)
        self.assertEqual(told, [[0]] * 200)

    def test_what_is_handed_in_stays(self):
        calls = h.flat([h.create()] + EVERY_CALL)
        before = list(calls)
        answers(calls)
        self.assertEqual(calls, before)

    def test_nothing_is_kept_between_times(self):
        calls = h.flat([h.create()] + EVERY_CALL)
        first = answers(calls)
        self.assertEqual(answers(h.terms()), [1, -11])
        self.assertEqual(answers([0, 5]), [1, 0, 2, 1, 0])
        self.assertEqual(answers(calls), first)

    def test_an_answer_is_the_callers_own(self):
        calls = h.flat(h.factors("a") + [h.term_text(0), h.format_text("a"), h.terms()])
        first = answers(calls)
        kept = list(first)
        first.clear()
        self.assertEqual(answers(calls), kept)

    def test_only_whole_numbers_are_told(self):
        for number in answers(h.flat([h.create()] + EVERY_CALL)):
            self.assertIs(type(number), int)

    def test_nothing_is_imported(self):
        before = set(sys.modules)
        answers(h.flat([h.create()] + EVERY_CALL))
        self.assertEqual(set(sys.modules), before)


class Create(unittest.TestCase):
    def test_every_call_before_create(self):
        for call in EVERY_CALL:
            self.assertEqual(h.run([call]), [[-11]], call)
        self.assertEqual(h.run(EVERY_CALL), [[-11]] * len(EVERY_CALL))

    def test_minus_11_comes_before_other_errors(self):
        wrong = [h.add_factor(9, 9, ""), h.set_coding(9, 9), h.set_model("+"), h.term_text(99),
                 h.format_text("$"), h.degrees(99), h.compare("", ""), h.check("a +"), h.coding(99), h.add_run([9, 9]),
                 h.remove_run(99), h.get_run(99), h.row_of([9, 9]), h.is_estimable([9, -9, 9])]
        self.assertEqual(h.run(wrong), [[-11]] * len(wrong))

    def test_a_refused_call_before_create_does_nothing(self):
        told = h.run(EVERY_CALL + [h.create(), h.check("a"), h.terms(), h.summary()])
        self.assertEqual(told[len(EVERY_CALL):], [[0], [3, 0], [1, 0], [0, 1, 1, 0]])

    def test_a_new_object_has_the_intercept(self):
        told = h.run([h.create(), h.terms(), h.model_text(), h.total_degrees(), h.is_closed(),
                      h.close(), h.term_text(0), h.degrees(0)])
        self.assertEqual(told, [[0], [1, 0], [1, 49], [1], [1], [1], [1, 49], [1]])

    def test_a_new_object_has_no_runs(self):
        told = h.run([h.create(), h.summary(), h.get_run(0), h.remove_run(0), h.matrix(), h.clear_runs()])
        self.assertEqual(told, [[0], [0, 1, 1, 0], [-2], [-2], [0, 1], [0]])

    def test_a_second_create_takes_the_runs_away(self):
        told = h.run(h.factors("ab") + [h.full_factorial(), h.create(), h.summary(), h.get_run(0), h.coding(0),
                                        h.add_factor(3, 1, "b"), h.summary(), h.matrix(), h.clear_runs()])
        self.assertEqual(told[3:], [[4], [0], [0, 1, 1, 0], [-2], [-2], [0], [1, 1, 1, 0], [0, 1], [0]])

    def test_a_second_create_starts_anew(self):
        told = h.run(h.factors("ab") + [h.set_model("a*b - 1"), h.create(), h.terms(), h.check("a"),
                     h.set_coding(0, 0), h.add_factor(3, 2, "b"), h.set_model("b"),
                     h.total_degrees(), h.set_coding(0, 0)])
        self.assertEqual(told[3:], [[3], [0], [1, 0], [3, 0], [-2], [0], [2], [3], [2]])


if __name__ == "__main__":
    unittest.main()
