"""What check tells of a set of hypotheses: subsumption, compatibility and price."""

import unittest

from helper import answers_of, begins, check, guess, keep, last, line, run

A, B, C, D = (2, 0), (2, 1), (2, 2), (2, 3)
ALL, NONE = (0,), (1,)
CHAIN = [guess(10, *A, *B), guess(200, *B, *C), guess(1000, *C, *D), guess(4, *A, *NONE)]


class Answers(unittest.TestCase):
    def test_no_hypotheses(self):
        self.assertEqual(last(check([], *A, *A)), [1, 1, 0])
        self.assertEqual(last(check([], *A, *B)), [0, 1, 0])
        self.assertEqual(last(*CHAIN, check([], *A, *B)), [0, 1, 0])
        self.assertEqual(last(*CHAIN, line(*A, *B), check([], *A, *B)), [1, 1, 0])
        self.assertEqual(last(line(*A, *NONE), keep(*A), check([], *A, *B)), [1, 0, 0])
        self.assertEqual(last(keep(*NONE), check([], *A, *B)), [0, 0, 0])

    def test_all_hypotheses(self):
        self.assertEqual(last(*CHAIN, check([0, 1, 2, 3], *A, *D)), [1, 1, 1214])
        self.assertEqual(last(*CHAIN, check([0, 1, 2, 3], *D, *A)), [0, 1, 1214])
        self.assertEqual(last(*CHAIN, keep(*A), check([0, 1, 2, 3], *A, *D)), [1, 0, 1214])

    def test_the_highest_price(self):
        self.assertEqual(last(*[guess(1000, *A, *B)] * 4, check([0, 1, 2, 3], *A, *B)), [1, 1, 4000])

    def test_the_price_is_that_of_the_set(self):
        sets = {(): 0, (0,): 10, (1,): 200, (2,): 1000, (3,): 4, (0, 2): 1010, (1, 3): 204, (0, 1, 3): 214}
        for chosen, price in sets.items():
            self.assertEqual(last(*CHAIN, check(chosen, *A, *B))[2], price, chosen)
            self.assertEqual(last(*CHAIN, check(chosen, *B, *A))[2], price, chosen)
            self.assertEqual(last(*CHAIN, keep(*NONE), check(chosen, *A, *B))[2], price, chosen)

    def test_only_the_given_hypotheses_count(self):
        results = run(*CHAIN, *[check([number], *B, *C) for number in range(4)])
        self.assertEqual(results[4:], [[0, 1, 10], [1, 1, 200], [0, 1, 1000], [0, 1, 4]])
        results = run(*CHAIN, check([0, 1], *A, *C), check([0, 2], *A, *C), check([1, 2], *B, *D))
        self.assertEqual(results[4:], [[1, 1, 210], [0, 1, 1010], [1, 1, 1200]])

    def test_a_sufficient_set_with_a_protected_concept(self):
        self.assertEqual(last(*CHAIN, keep(*A), check([0, 1], *A, *C)), [1, 1, 210])
        self.assertEqual(last(*CHAIN, keep(3, *A, *D), keep(5, *D), check([0, 1, 2], *A, *D)), [1, 1, 1210])

    def test_sets_that_are_not_compatible(self):
        for_both = [guess(3, *A, *B), guess(5, *A, 5, *B), keep(*A)]
        results = run(*for_both, check([0], *A, *B), check([1], *A, *B), check([0, 1], *A, *B), check([0, 1], *C, *D))
        self.assertEqual(results[3:], [[1, 1, 3], [0, 1, 5], [1, 0, 8], [0, 0, 8]])

    def test_each_protected_concept_counts(self):
        offered = [guess(3, *A, *NONE), guess(5, *C, *NONE), keep(*C), keep(*A)]
        results = run(*offered, check([], *B, *D), check([0], *B, *D), check([1], *B, *D), check([0, 1], *B, *D))
        self.assertEqual(results[4:], [[0, 1, 0], [0, 0, 3], [0, 0, 5], [0, 0, 8]])

    def test_a_subsumption_that_holds_only_by_contradiction(self):
        self.assertEqual(last(*CHAIN, check([3], *A, *D)), [1, 1, 4])
        self.assertEqual(last(*CHAIN, keep(*B), check([3], *A, *D)), [1, 1, 4])
        self.assertEqual(last(*CHAIN, keep(*A), check([3], *A, *D)), [1, 0, 4])
        everything = [guess(2, *ALL, *NONE)]
        self.assertEqual(last(*everything, check([0], *ALL, *NONE)), [1, 1, 2])
        self.assertEqual(last(*everything, keep(*ALL), check([0], *ALL, *NONE)), [1, 0, 2])

    def test_an_explanation_as_proper_subset(self):
        results = run(*CHAIN, keep(*A), answers_of(*A, *B), check([0], *A, *B), check([0, 1, 2], *A, *B))
        self.assertEqual(results[5:], [[1, 1, 0], [1, 1, 10], [1, 1, 1210]])

    def test_concepts_with_relations(self):
        offered = [line(*A, 6, 0, *B), guess(7, *B, *NONE), guess(8, *ALL, 7, 0, *C)]
        self.assertEqual(last(*offered, check([0], *A, *NONE)), [1, 1, 7])
        self.assertEqual(last(*offered, keep(*A), check([0], *A, *NONE)), [1, 0, 7])
        self.assertEqual(last(*offered, keep(*A), check([1], *A, 6, 0, 3, *B, *C)), [-7])
        self.assertEqual(last(*offered, keep(*A), check([1], 6, 0, *B, 7, 0, *C)), [1, 1, 8])

    def test_protected_concepts_that_no_element_has_both(self):
        self.assertEqual(last(guess(6, *B, *C), keep(*A), keep(5, *A), check([0], *B, *C)), [1, 1, 6])


class Numbers(unittest.TestCase):
    def assert_no_set(self, calls, *sets):
        for chosen in sets:
            self.assertEqual(last(*calls, check(chosen, *A, *B)), [-2], chosen)

    def test_equal(self):
        self.assert_no_set(CHAIN, [0, 0], [3, 3], [0, 1, 1], [0, 0, 1], [1, 2, 3, 3], [0] * 30)

    def test_descending(self):
        self.assert_no_set(CHAIN, [1, 0], [3, 2, 1, 0], [0, 2, 1], [1, 0, 2], [0, 1, 3, 2], [2, 3, 0])

    def test_too_great(self):
        self.assert_no_set(CHAIN, [4], [0, 4], [0, 1, 2, 3, 4], [4294967295], [0, 4294967295], [4, 0])
        self.assert_no_set(CHAIN[:1], [1], [0, 1])
        self.assert_no_set([], [0], [4294967295], [0, 1, 2, 3])

    def test_thirty_numbers(self):
        self.assert_no_set(CHAIN, list(range(30)), [*range(29), 4294967295], [4294967295] * 30, [0, 1, 2] * 10)

    def test_the_last_hypothesis_is_there(self):
        for count in range(1, 5):
            offered = CHAIN[:count]
            self.assertEqual(last(*offered, check([count - 1], *A, *A))[:2], [1, 1])
            self.assertEqual(last(*offered, check([count], *A, *A)), [-2])

    def test_after_begins(self):
        self.assert_no_set([*CHAIN, begins()], [0], [3])
        self.assert_no_set([*CHAIN, begins(), CHAIN[1]], [1])
        self.assertEqual(last(*CHAIN, begins(), CHAIN[1], check([0], *B, *C)), [1, 1, 200])


if __name__ == "__main__":
    unittest.main()
