"""The rows of the document's examples, and other lists of calls that are easy to follow."""

import unittest

from helper import answers_of, check, cheapest, greatest, guess, keep, last, line, run, take
from missingaxioms.guesses import answers

STATED = [
    line(2, 0, 2, 1),
    guess(4, 2, 1, 2, 3),
    guess(3, 2, 1, 2, 2),
    guess(2, 2, 2, 2, 3),
    guess(1, 2, 0, 1),
]
# The rows of the document, in its order, with the numbers that its interface gives for them.
ROWS = [
    (answers_of(2, 0, 2, 3), [3, 1, 0, 1, 3, 2, 1, 2]),
    (keep(2, 0), [0]),
    (answers_of(2, 0, 2, 3), [2, 1, 0, 2, 1, 2]),
    (cheapest(2, 0, 2, 3), [4, 0]),
    (check([1, 2], 2, 0, 2, 3), [1, 1, 5]),
    (check([3], 2, 0, 2, 3), [1, 0, 1]),
    (greatest(), [1, 3, 0, 1, 2]),
    (answers_of(2, 0, 2, 1), [1, 0]),
    (cheapest(2, 3, 2, 0), [-6]),
    (take(0), [3]),
    (answers_of(2, 0, 2, 3), [1, 0]),
    (check([9], 2, 0, 0), [-2]),
    (take(9), [-2]),
    (guess(0, 2, 0, 0), [-1]),
    (line(2), [-1]),
    (keep(5, 2, 3), [1]),
    (greatest(), [1, 2, 0, 1]),
]


class Examples(unittest.TestCase):
    def test_all_rows_of_the_document(self):
        results = run(*STATED, *[call for call, result in ROWS])
        self.assertEqual(results[:5], [[0], [0], [1], [2], [3]])
        for (call, result), given in zip(ROWS, results[5:], strict=True):
            self.assertEqual(given, result, call)

    def test_each_row_without_the_questions_before(self):
        for place, (call, result) in enumerate(ROWS):
            changes = [other for other, found in ROWS[:place] if other[0] in (3, 8)]
            self.assertEqual(last(*STATED, *changes, call), result, call)

    def test_what_is_stated(self):
        self.assertEqual(run(*STATED), [[0], [0], [1], [2], [3]])

    def test_three_explanations(self):
        self.assertEqual(last(*STATED, answers_of(2, 0, 2, 3)), [3, 1, 0, 1, 3, 2, 1, 2])

    def test_a_protected_concept_rules_one_out(self):
        results = run(*STATED, keep(2, 0), answers_of(2, 0, 2, 3))
        self.assertEqual(results[-2:], [[0], [2, 1, 0, 2, 1, 2]])

    def test_the_empty_set(self):
        self.assertEqual(last(*STATED, keep(2, 0), answers_of(2, 0, 2, 1)), [1, 0])

    def test_nothing_is_sufficient(self):
        self.assertEqual(last(*STATED, keep(2, 0), answers_of(2, 3, 2, 0)), [0])

    def test_errors_and_second_protected_concept(self):
        results = run(*STATED, keep(2, 0), guess(0, 2, 0, 0), line(2), keep(5, 2, 3))
        self.assertEqual(results[-3:], [[-1], [-1], [1]])

    def test_a_sufficient_hypothesis_among_the_axioms(self):
        as_axiom = [line(2, 0, 2, 1), line(2, 1, 2, 3), *STATED[2:], keep(2, 0)]
        self.assertEqual(last(*as_axiom, answers_of(2, 0, 2, 3)), [1, 0])

    def test_the_whole_list_as_numbers(self):
        calls = [1, 4, 2, 0, 2, 1, 2, 4, 4, 2, 1, 2, 3, 2, 3, 4, 2, 1, 2, 2, 2, 2, 4, 2, 2, 2, 3,
                 2, 1, 3, 2, 0, 1, 4, 4, 2, 0, 2, 3, 3, 2, 2, 0, 4, 4, 2, 0, 2, 3, 0, 4, 0]
        self.assertEqual(answers(calls), [
            1, 0, 1, 0, 1, 1, 1, 2, 1, 3, 8, 3, 1, 0, 1, 3, 2, 1, 2, 1, 0, 6, 2, 1, 0, 2, 1, 2, 1, 0, 1, -1])

    def test_the_later_rows_as_numbers(self):
        calls = [5, 4, 2, 0, 2, 3, 6, 2, 1, 2, 4, 2, 0, 2, 3, 6, 1, 3, 4, 2, 0, 2, 3, 7, 5, 4, 2, 3, 2, 0,
                 8, 0, 6, 1, 9, 3, 2, 0, 0, 8, 9, 7]
        stated = [number for call in [*STATED, keep(2, 0)] for number in call]
        self.assertEqual(answers(stated + calls), [
            1, 0, 1, 0, 1, 1, 1, 2, 1, 3, 1, 0, 2, 4, 0, 3, 1, 1, 5, 3, 1, 0, 1, 5, 1, 3, 0, 1, 2, 1, -6,
            1, 3, 1, -2, 1, -2, 4, 1, 2, 0, 1])


if __name__ == "__main__":
    unittest.main()
