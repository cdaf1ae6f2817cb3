"""The errors of line, guess, keep and answers_of, and that an error changes nothing."""

import unittest

from helper import answers_of, begins, guess, keep, last, line, run

MALFORMED_PAIRS = [
    (),
    (0,),
    (2, 0),
    (0, 0, 0),
    (2, 0, 2, 1, 0),
    (2, 0, 2, 1, 2),
    (2, 0, 2),
    (2, 0, 2, 4),
    (2, 4, 2, 0),
    (2, 0, 6, 2, 0),
    (7, 2, 0, 0),
    (6, 4294967295, 0, 0),
    (0, 8),
    (8, 0),
    (0, 4294967295),
    (2, 4294967295, 0),
    (0, 3, 0),
    (0, 4, 2, 1),
    (0, 5),
    (0, 6),
    (0, 6, 0),
    (0, 7, 1),
    (0, 2),
    (0,) * 30,
    (5,) * 30,
    (3,) * 30,
]
MALFORMED_SINGLES = [
    (),
    (0, 0),
    (2,),
    (2, 4),
    (3, 0),
    (4, 0, 0, 0),
    (5,),
    (6, 2, 0),
    (6, 0),
    (7, 1),
    (8,),
    (9, 0),
    (4294967295,),
    (2, 0, 2),
    (2, 0, 1),
    (1,) * 30,
    (5,) * 30,
]
FOUR_NAMES = (4, 4, 2, 0, 2, 1, 4, 2, 2, 2, 3)
# Whatever list shows which axioms, hypotheses and protected concepts there are.
BEFORE = [line(2, 0, 2, 1), guess(7, 2, 1, 2, 2), keep(2, 0)]
AFTER = [
    answers_of(2, 0, 2, 2),
    line(2, 2, 1),
    guess(1000, 2, 0, 1),
    keep(2, 1),
    answers_of(2, 0, 2, 2),
    answers_of(2, 1, 2, 2),
    guess(5, 6, 0, 2, 0, 6, 0, 2, 1),
    answers_of(2, 0, 2, 1),
]


class Errors(unittest.TestCase):
    def assert_refused(self, before, call, error, after=()):
        """The call gives the error, and the calls after it give what they give without it."""
        plain = run(*before, *after)
        results = run(*before, call, *after)
        place = len(before)
        self.assertEqual(results[place], [error], call)
        self.assertEqual(results[:place] + results[place + 1:], plain, call)

    def test_malformed_pairs(self):
        for numbers in MALFORMED_PAIRS:
            for call in (line(*numbers), guess(1, *numbers), answers_of(*numbers)):
                self.assert_refused(BEFORE, call, -1, AFTER)

    def test_malformed_single_concepts(self):
        for numbers in MALFORMED_SINGLES:
            self.assert_refused(BEFORE, keep(*numbers), -1, AFTER)

    def test_prices(self):
        for price in (0, 1001, 4294967295):
            self.assert_refused(BEFORE, guess(price, 2, 0, 2, 1), -1, AFTER)
        for price in (1, 2, 999, 1000):
            self.assertEqual(last(guess(price, 2, 0, 2, 1)), [0], price)

    def test_fifth_axiom(self):
        before = [line(0, 0), line(0, 0), line(2, 0, 2, 1), line(2, 1, 2, 2)]
        self.assertEqual(run(*before), [[0], [1], [2], [3]])
        after = [answers_of(2, 0, 2, 2), guess(1, 0, 0), keep(0), answers_of(0, 1)]
        self.assert_refused(before, line(0, 1), -7, after)

    def test_fifth_hypothesis(self):
        before = [guess(1, 0, 0), guess(1, 2, 0, 2, 1), guess(1, 2, 1, 2, 2), guess(1, 2, 0, 2, 2)]
        self.assertEqual(run(*before), [[0], [1], [2], [3]])
        after = [answers_of(2, 0, 2, 2), line(0, 0), keep(0), answers_of(0, 1)]
        self.assert_refused(before, guess(1, 0, 1), -7, after)

    def test_third_protected_concept(self):
        before = [guess(1, 2, 0, 1), keep(2, 0), keep(2, 1)]
        self.assertEqual(run(*before), [[0], [0], [1]])
        after = [answers_of(2, 0, 2, 2), line(0, 0), guess(1, 2, 2, 1), answers_of(2, 2, 1)]
        self.assert_refused(before, keep(1), -7, after)

    def test_sixth_atom_of_each_operation(self):
        before = [line(FOUR_NAMES[0], *FOUR_NAMES[1:], 6, 0, 2, 0)]
        self.assertEqual(run(*before), [[0]])
        after = [answers_of(2, 0, 2, 1), guess(1, 2, 0, 2, 1), keep(2, 0), answers_of(2, 0, 2, 1)]
        for call in (
            line(6, 1, 2, 0, 0), line(0, 6, 1, 2, 0), guess(1, 7, 0, 2, 0, 0), guess(1, 0, 7, 0, 2, 0),
            keep(6, 0, 2, 1), answers_of(6, 0, 2, 1, 0), answers_of(0, 6, 0, 2, 1),
        ):
            self.assert_refused(before, call, -7, after)

    def test_malformed_comes_before_full(self):
        full = [line(0, 0)] * 4 + [guess(1, 0, 0)] * 4 + [keep(0)] * 2
        for call in (line(0), guess(1, 0), guess(0, 0, 0), guess(1001, 0, 0), keep(0, 0)):
            self.assert_refused(full, call, -1, [answers_of(0, 0)])
        for call in (line(0, 0), guess(1, 0, 0), keep(0)):
            self.assert_refused(full, call, -7, [answers_of(0, 0)])

    def test_malformed_comes_before_too_many_atoms(self):
        full = [keep(3, *FOUR_NAMES, 6, 0, 2, 0)]
        sixth = (6, 1, 2, 0)
        for call in (
            line(*sixth), line(0, 0, *sixth), guess(0, 0, *sixth), guess(1001, 0, *sixth), guess(1, *sixth),
            keep(*sixth, 0), answers_of(*sixth), answers_of(*sixth, 0, 0),
        ):
            self.assert_refused(full, call, -1, [answers_of(2, 0, 2, 1)])
        for call in (line(0, *sixth), guess(1, 0, *sixth), keep(*sixth), answers_of(0, *sixth)):
            self.assert_refused(full, call, -7, [answers_of(2, 0, 2, 1)])

    def test_errors_at_the_beginning_and_after_begins(self):
        for call in (line(), guess(0), keep(), answers_of()):
            self.assert_refused([], call, -1, [*BEFORE, *AFTER])
            self.assert_refused([*BEFORE, begins()], call, -1, AFTER)


if __name__ == "__main__":
    unittest.main()
