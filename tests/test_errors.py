"""The errors of the operations, their order, and that an error changes nothing."""

import unittest

from helper import answers_of, begins, check, cheapest, greatest, guess, keep, last, line, run, take

MALFORMED_PAIRS = [
    (),
    (0,),
    (2, 0),
    (0, 0, 0),
    (2, 0, 2, 1, 0),
    (2, 0, 2, 1, 2),
    (2, 0, 2),
    (2, 0, 2, 4),
    (2, 4, 2, 0),
    (2, 0, 6, 2, 0),
    (7, 2, 0, 0),
    (6, 4294967295, 0, 0),
    (0, 8),
    (8, 0),
    (0, 4294967295),
    (2, 4294967295, 0),
    (0, 3, 0),
    (0, 4, 2, 1),
    (0, 5),
    (0, 6),
    (0, 6, 0),
    (0, 7, 1),
    (0, 2),
    (0,) * 30,
    (5,) * 30,
    (3,) * 30,
]
MALFORMED_SINGLES = [
    (),
    (0, 0),
    (2,),
    (2, 4),
    (3, 0),
    (4, 0, 0, 0),
    (5,),
    (6, 2, 0),
    (6, 0),
    (7, 1),
    (8,),
    (9, 0),
    (4294967295,),
    (2, 0, 2),
    (2, 0, 1),
    (1,) * 30,
    (5,) * 30,
]
FOUR_NAMES = (4, 4, 2, 0, 2, 1, 4, 2, 2, 2, 3)
# Whatever list shows which axioms, hypotheses and protected concepts there are.
BEFORE = [line(2, 0, 2, 1), guess(7, 2, 1, 2, 2), keep(2, 0)]
AFTER = [
    answers_of(2, 0, 2, 2),
    check([0], 2, 0, 2, 2),
    line(2, 2, 1),
    guess(1000, 2, 0, 1),
    keep(2, 1),
    answers_of(2, 0, 2, 2),
    check([1], 2, 1, 2, 2),
    greatest(),
    guess(5, 6, 0, 2, 0, 6, 0, 2, 1),
    cheapest(2, 0, 2, 1),
    check([0, 1, 2], 2, 0, 2, 1),
    take(0),
    line(0, 0),
]


class Errors(unittest.TestCase):
    def assert_refused(self, before, call, error, after=()):
        """The call gives the error, and the calls after it give what they give without it."""
        plain = run(*before, *after)
        results = run(*before, call, *after)
        place = len(before)
        self.assertEqual(results[place], [error], call)
        self.assertEqual(results[:place] + results[place + 1:], plain, call)

    def test_malformed_pairs(self):
        for numbers in MALFORMED_PAIRS:
            for call in (
                line(*numbers), guess(1, *numbers), answers_of(*numbers), cheapest(*numbers), check([], *numbers),
                check([0], *numbers),
            ):
                self.assert_refused(BEFORE, call, -1, AFTER)

    def test_malformed_single_concepts(self):
        for numbers in MALFORMED_SINGLES:
            self.assert_refused(BEFORE, keep(*numbers), -1, AFTER)

    def test_prices(self):
        for price in (0, 1001, 4294967295):
            self.assert_refused(BEFORE, guess(price, 2, 0, 2, 1), -1, AFTER)
        for price in (1, 2, 999, 1000):
            self.assertEqual(last(guess(price, 2, 0, 2, 1)), [0], price)

    def test_fifth_axiom(self):
        before = [line(0, 0), line(0, 0), line(2, 0, 2, 1), line(2, 1, 2, 2)]
        self.assertEqual(run(*before), [[0], [1], [2], [3]])
        after = [answers_of(2, 0, 2, 2), guess(1, 0, 0), keep(0), answers_of(0, 1)]
        self.assert_refused(before, line(0, 1), -7, after)

    def test_fifth_hypothesis(self):
        before = [guess(1, 0, 0), guess(1, 2, 0, 2, 1), guess(1, 2, 1, 2, 2), guess(1, 2, 0, 2, 2)]
        self.assertEqual(run(*before), [[0], [1], [2], [3]])
        after = [answers_of(2, 0, 2, 2), line(0, 0), keep(0), answers_of(0, 1)]
        self.assert_refused(before, guess(1, 0, 1), -7, after)

    def test_third_protected_concept(self):
        before = [guess(1, 2, 0, 1), keep(2, 0), keep(2, 1)]
        self.assertEqual(run(*before), [[0], [0], [1]])
        after = [answers_of(2, 0, 2, 2), line(0, 0), guess(1, 2, 2, 1), answers_of(2, 2, 1)]
        self.assert_refused(before, keep(1), -7, after)

    def test_sixth_atom_of_each_operation(self):
        before = [line(FOUR_NAMES[0], *FOUR_NAMES[1:], 6, 0, 2, 0)]
        self.assertEqual(run(*before), [[0]])
        after = [answers_of(2, 0, 2, 1), guess(1, 2, 0, 2, 1), keep(2, 0), answers_of(2, 0, 2, 1)]
        for call in (
            line(6, 1, 2, 0, 0), line(0, 6, 1, 2, 0), guess(1, 7, 0, 2, 0, 0), guess(1, 0, 7, 0, 2, 0),
            keep(6, 0, 2, 1), answers_of(6, 0, 2, 1, 0), answers_of(0, 6, 0, 2, 1), cheapest(7, 0, 2, 1, 0),
            cheapest(0, 7, 0, 2, 1), check([], 6, 1, 2, 0, 0), check([], 0, 6, 1, 2, 0),
        ):
            self.assert_refused(before, call, -7, after)

    def test_malformed_comes_before_full(self):
        full = [line(0, 0)] * 4 + [guess(1, 0, 0)] * 4 + [keep(0)] * 2
        for call in (line(0), guess(1, 0), guess(0, 0, 0), guess(1001, 0, 0), keep(0, 0)):
            self.assert_refused(full, call, -1, [answers_of(0, 0)])
        for call in (line(0, 0), guess(1, 0, 0), keep(0)):
            self.assert_refused(full, call, -7, [answers_of(0, 0)])

    def test_malformed_comes_before_too_many_atoms(self):
        full = [keep(3, *FOUR_NAMES, 6, 0, 2, 0)]
        sixth = (6, 1, 2, 0)
        for call in (
            line(*sixth), line(0, 0, *sixth), guess(0, 0, *sixth), guess(1001, 0, *sixth), guess(1, *sixth),
            keep(*sixth, 0), answers_of(*sixth), answers_of(*sixth, 0, 0), cheapest(*sixth), cheapest(*sixth, 0, 0),
            check([], *sixth), check([], *sixth, 0, 0),
        ):
            self.assert_refused(full, call, -1, [answers_of(2, 0, 2, 1)])
        for call in (
            line(0, *sixth), guess(1, 0, *sixth), keep(*sixth), answers_of(0, *sixth), cheapest(0, *sixth),
            check([], 0, *sixth),
        ):
            self.assert_refused(full, call, -7, [answers_of(2, 0, 2, 1)])

    def test_errors_at_the_beginning_and_after_begins(self):
        for call in (line(), guess(0), keep(), answers_of(), cheapest(), check([])):
            self.assert_refused([], call, -1, [*BEFORE, *AFTER])
            self.assert_refused([*BEFORE, begins()], call, -1, AFTER)
        for call, error in ((cheapest(0, 1), -6), (check([0], 0, 0), -2), (take(0), -2)):
            self.assert_refused([], call, error, [*BEFORE, *AFTER])
            self.assert_refused([*BEFORE, begins()], call, error, AFTER)

    def test_no_such_hypotheses_to_check(self):
        two = [*BEFORE, guess(9, 2, 2, 2, 0)]
        for chosen in ([2], [0, 2], [0, 0], [1, 0], [1, 1], [0, 1, 1], [4294967295], [0, 1, 2, 3] * 7, list(range(30))):
            self.assert_refused(two, check(chosen, 2, 0, 2, 2), -2, AFTER)

    def test_order_of_the_errors_of_check(self):
        full = [keep(3, *FOUR_NAMES, 6, 0, 2, 0), guess(3, 2, 0, 2, 1)]
        after = [check([0], 2, 0, 2, 1), greatest(), cheapest(2, 0, 2, 1)]
        sixth = (6, 1, 2, 0)
        for numbers in ((), (0,), (0, 0, 0), sixth, (*sixth, 0, 0)):
            for chosen in ([], [0], [1], [0, 0]):
                self.assert_refused(full, check(chosen, *numbers), -1, after)
        for chosen in ([1], [0, 0], [0, 1], [4294967295], [0] * 30):
            self.assert_refused(full, check(chosen, 0, *sixth), -2, after)
            self.assert_refused(full, check(chosen, 0, 0), -2, after)
        for chosen in ([], [0]):
            self.assert_refused(full, check(chosen, 0, *sixth), -7, after)
            self.assertEqual(last(*full, check(chosen, 0, 6, 0, 2, 0)), [0, 1, 3 * len(chosen)])

    def test_atoms_of_hypotheses_that_are_not_checked_count_too(self):
        full = [guess(3, *FOUR_NAMES, 0), guess(4, 0, 6, 0, 2, 0)]
        for chosen in ([], [0], [1], [0, 1]):
            self.assert_refused(full, check(chosen, 6, 1, 2, 0, 0), -7, [greatest(), check([0, 1], 0, 0)])

    def test_no_explanation(self):
        self.assert_refused(BEFORE, cheapest(2, 2, 2, 0), -6, AFTER)
        self.assert_refused([*BEFORE, line(2, 0, 1)], cheapest(2, 0, 2, 1), -6, AFTER)
        full = [keep(3, *FOUR_NAMES, 6, 0, 2, 0)]
        self.assert_refused(full, cheapest(0, 6, 1, 2, 0), -7, [greatest()])
        self.assert_refused(full, cheapest(0, 6, 0, 2, 0), -6, [greatest()])
        self.assert_refused(full, cheapest(0), -1, [greatest()])

    def test_errors_of_take(self):
        for index in (1, 2, 4, 4294967295):
            self.assert_refused(BEFORE, take(index), -2, AFTER)
        full = [line(2, 0, 2, 1)] * 4 + [guess(7, 2, 1, 2, 2), guess(8, 2, 2, 2, 0)]
        after = [check([0], 2, 1, 2, 2), check([1], 2, 2, 2, 0), greatest(), guess(1, 0, 0), cheapest(2, 0, 2, 2)]
        for index, error in ((0, -7), (1, -7), (2, -2), (3, -2), (4294967295, -2)):
            self.assert_refused(full, take(index), error, after)


if __name__ == "__main__":
    unittest.main()
