"""Which sets of hypotheses are explanations, and in which order they are given."""

import unittest

from helper import answers_of, guess, keep, last, line, sets_of

A, B, C, D = (2, 0), (2, 1), (2, 2), (2, 3)
ALL, NONE = (0,), (1,)


class Sets(unittest.TestCase):
    def test_no_hypotheses(self):
        self.assertEqual(last(answers_of(*A, *A)), [1, 0])
        self.assertEqual(last(answers_of(*A, *B)), [0])

    def test_the_empty_set_is_the_only_explanation_if_it_is_sufficient(self):
        offered = [guess(1, *A, *B), guess(1, *A, *NONE), guess(1, *ALL, *B)]
        self.assertEqual(last(*offered, answers_of(*A, *B)), [3, 1, 0, 1, 1, 1, 2])
        self.assertEqual(last(*offered, line(*A, *B), answers_of(*A, *B)), [1, 0])

    def test_a_useless_hypothesis_is_left_out(self):
        offered = [guess(1, *C, *D), guess(1, *A, *B), guess(1, *B, *A)]
        self.assertEqual(last(*offered, answers_of(*A, *B)), [1, 1, 1])

    def test_equal_hypotheses_each_explain(self):
        offered = [guess(1, *A, *B), guess(900, *A, *B), guess(1, *A, *B), guess(1, *A, *B)]
        self.assertEqual(last(*offered, answers_of(*A, *B)), [4, 1, 0, 1, 1, 1, 2, 1, 3])

    def test_sets_of_the_same_size_by_the_first_difference(self):
        offered = [guess(1, *A, *B), guess(1, *A, *B), guess(1, *B, *C), guess(1, *B, *C)]
        self.assertEqual(sets_of(last(*offered, answers_of(*A, *C))), [[0, 2], [0, 3], [1, 2], [1, 3]])

    def test_sets_of_different_sizes(self):
        offered = [guess(1, *A, *B), guess(1, *B, *C), guess(1, *C, *D), guess(1, *A, *D)]
        self.assertEqual(sets_of(last(*offered, answers_of(*A, *D))), [[3], [0, 1, 2]])
        offered = [guess(1, *A, *B), guess(1, *B, *D), guess(1, *B, *C), guess(1, *C, *D)]
        self.assertEqual(sets_of(last(*offered, answers_of(*A, *D))), [[0, 1], [0, 2, 3]])

    def test_all_four_hypotheses_are_needed(self):
        offered = [guess(1, *D, 6, 0, *ALL), guess(1, *C, *D), guess(1, *B, *C), guess(1, *A, *B)]
        self.assertEqual(last(*offered, answers_of(*A, 6, 0, *ALL)), [1, 4, 0, 1, 2, 3])

    def test_prices_do_not_change_the_order(self):
        offered = [guess(1000, *A, *B), guess(1, *A, *B), guess(500, *A, *B)]
        self.assertEqual(sets_of(last(*offered, answers_of(*A, *B))), [[0], [1], [2]])


class Protection(unittest.TestCase):
    def test_sets_are_ruled_out(self):
        offered = [guess(1, *A, *NONE), guess(1, *A, *B), guess(1, *ALL, *NONE)]
        self.assertEqual(sets_of(last(*offered, answers_of(*A, *B))), [[0], [1], [2]])
        self.assertEqual(sets_of(last(*offered, keep(*C), answers_of(*A, *B))), [[0], [1]])
        self.assertEqual(sets_of(last(*offered, keep(*A), answers_of(*A, *B))), [[1]])
        with_without_b = (3, *A, 5, *B)
        self.assertEqual(last(*offered, keep(*with_without_b), answers_of(*A, *B)), [0])

    def test_each_protected_concept_counts(self):
        offered = [guess(1, *A, *NONE), guess(1, *C, *NONE), guess(1, 4, *A, *C, *B)]
        asked = answers_of(4, *A, *C, *B)
        self.assertEqual(sets_of(last(*offered, asked)), [[2], [0, 1]])
        self.assertEqual(sets_of(last(*offered, keep(*A), asked)), [[2]])
        self.assertEqual(sets_of(last(*offered, keep(*D), keep(*C), asked)), [[2]])
        self.assertEqual(sets_of(last(*offered, keep(*C), keep(*D), asked)), [[2]])

    def test_protected_concepts_may_be_had_in_different_models(self):
        # With the first hypothesis, no element has both protected concepts.
        offered = [guess(1, *A, 7, 0, *NONE), guess(1, *ALL, 6, 0, *ALL)]
        self.assertEqual(last(*offered, keep(*A), keep(6, 0, *ALL), answers_of(*A, 7, 0, *NONE)), [1, 1, 0])
        apart = [line(6, 0, *ALL, *NONE), guess(1, *A, *C), guess(1, *A, 5, *B)]
        self.assertEqual(last(*apart, keep(3, *A, *C), keep(3, *A, *B), answers_of(*A, *C)), [1, 1, 0])

    def test_protected_concepts_that_exclude_each_other_in_one_element(self):
        self.assertEqual(last(guess(1, *B, *C), keep(*A), keep(5, *A), answers_of(*B, *C)), [1, 1, 0])

    def test_nothing_is_sufficient_if_the_axioms_rule_a_protected_concept_out(self):
        stated = [line(*A, *NONE), guess(1, *B, *C)]
        self.assertEqual(last(*stated, answers_of(*A, *B)), [1, 0])
        self.assertEqual(last(*stated, keep(*A), answers_of(*A, *B)), [0])
        self.assertEqual(last(*stated, keep(*A), answers_of(*B, *B)), [0])
        self.assertEqual(last(keep(*NONE), answers_of(*ALL, *ALL)), [0])

    def test_contradictory_axioms_are_sufficient_without_protected_concepts(self):
        self.assertEqual(last(line(*ALL, *NONE), guess(1, *A, *B), answers_of(*ALL, *NONE)), [1, 0])
        self.assertEqual(last(line(*ALL, *NONE), keep(*ALL), answers_of(*ALL, *NONE)), [0])


if __name__ == "__main__":
    unittest.main()
