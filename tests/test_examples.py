"""The rows of the document's examples, and other lists of calls that are easy to follow."""

import unittest

from helper import answers_of, guess, keep, last, line, run
from missingaxioms.guesses import answers

STATED = [
    line(2, 0, 2, 1),
    guess(4, 2, 1, 2, 3),
    guess(3, 2, 1, 2, 2),
    guess(2, 2, 2, 2, 3),
    guess(1, 2, 0, 1),
]


class Examples(unittest.TestCase):
    def test_what_is_stated(self):
        self.assertEqual(run(*STATED), [[0], [0], [1], [2], [3]])

    def test_three_explanations(self):
        self.assertEqual(last(*STATED, answers_of(2, 0, 2, 3)), [3, 1, 0, 1, 3, 2, 1, 2])

    def test_a_protected_concept_rules_one_out(self):
        results = run(*STATED, keep(2, 0), answers_of(2, 0, 2, 3))
        self.assertEqual(results[-2:], [[0], [2, 1, 0, 2, 1, 2]])

    def test_the_empty_set(self):
        self.assertEqual(last(*STATED, keep(2, 0), answers_of(2, 0, 2, 1)), [1, 0])

    def test_nothing_is_sufficient(self):
        self.assertEqual(last(*STATED, keep(2, 0), answers_of(2, 3, 2, 0)), [0])

    def test_errors_and_second_protected_concept(self):
        results = run(*STATED, keep(2, 0), guess(0, 2, 0, 0), line(2), keep(5, 2, 3))
        self.assertEqual(results[-3:], [[-1], [-1], [1]])

    def test_a_sufficient_hypothesis_among_the_axioms(self):
        as_axiom = [line(2, 0, 2, 1), line(2, 1, 2, 3), *STATED[2:], keep(2, 0)]
        self.assertEqual(last(*as_axiom, answers_of(2, 0, 2, 3)), [1, 0])

    def test_the_whole_list_as_numbers(self):
        calls = [1, 4, 2, 0, 2, 1, 2, 4, 4, 2, 1, 2, 3, 2, 3, 4, 2, 1, 2, 2, 2, 2, 4, 2, 2, 2, 3,
                 2, 1, 3, 2, 0, 1, 4, 4, 2, 0, 2, 3, 3, 2, 2, 0, 4, 4, 2, 0, 2, 3, 0, 4, 0]
        self.assertEqual(answers(calls), [
            1, 0, 1, 0, 1, 1, 1, 2, 1, 3, 8, 3, 1, 0, 1, 3, 2, 1, 2, 1, 0, 6, 2, 1, 0, 2, 1, 2, 1, 0, 1, -1])


if __name__ == "__main__":
    unittest.main()
