"""The cheapest explanation, its price, and what cheapest returns if there is none."""

import unittest

from helper import answers_of, begins, cheapest, guess, keep, last, line, run

A, B, C, D = (2, 0), (2, 1), (2, 2), (2, 3)
ALL, NONE = (0,), (1,)


class NoExplanation(unittest.TestCase):
    def test_no_hypotheses(self):
        self.assertEqual(last(cheapest(*A, *B)), [-6])
        self.assertEqual(last(line(*B, *A), cheapest(*A, *B)), [-6])

    def test_no_hypothesis_helps(self):
        self.assertEqual(last(guess(1, *B, *A), guess(1, *C, *D), cheapest(*A, *B)), [-6])

    def test_what_helps_is_not_compatible(self):
        offered = [guess(1, *A, *NONE), guess(1, *A, 5, *A)]
        self.assertEqual(last(*offered, keep(*A), cheapest(*A, *B)), [-6])
        self.assertEqual(last(*offered, cheapest(*A, *B)), [1, 0])

    def test_the_axioms_are_not_compatible(self):
        calls = [line(*A, *NONE), guess(1, *A, *B), keep(*A)]
        self.assertEqual(last(*calls, cheapest(*A, *B)), [-6])
        self.assertEqual(last(*calls, cheapest(*ALL, *ALL)), [-6])
        self.assertEqual(last(keep(*NONE), cheapest(*ALL, *ALL)), [-6])


class EmptySet(unittest.TestCase):
    def test_without_axioms(self):
        self.assertEqual(last(cheapest(*A, *A)), [0])
        self.assertEqual(last(cheapest(*NONE, *A)), [0])
        self.assertEqual(last(guess(1, *A, *B), keep(*A), cheapest(3, *A, *B, *B)), [0])

    def test_it_follows_from_the_axioms(self):
        calls = [line(*A, *B), line(*B, *C), guess(1, *A, *C), guess(1, *A, *NONE)]
        self.assertEqual(last(*calls, cheapest(*A, *C)), [0])

    def test_contradictory_axioms(self):
        self.assertEqual(last(line(*ALL, *NONE), guess(1, *A, *B), cheapest(*A, *B)), [0])


class LowestPrice(unittest.TestCase):
    def test_the_only_hypothesis(self):
        for price in (1, 2, 999, 1000):
            self.assertEqual(last(guess(price, *A, *B), cheapest(*A, *B)), [price, 0])

    def test_the_lowest_price_anywhere(self):
        for place in range(4):
            prices = [7, 8, 9, 1000]
            prices[place] = 6
            offered = [guess(price, *A, *B) for price in prices]
            self.assertEqual(last(*offered, cheapest(*A, *B)), [6, place])

    def test_the_first_of_several_of_the_same_size(self):
        offered = [guess(9, *A, *B), guess(3, *A, *B), guess(3, *A, *B), guess(3, *A, *B)]
        self.assertEqual(last(*offered, cheapest(*A, *B)), [3, 1])
        pairs = [guess(2, *A, *B), guess(5, *A, *B), guess(4, *B, *C), guess(1, *B, *C)]
        self.assertEqual(last(*pairs, cheapest(*A, *C)), [3, 0, 3])
        pairs = [guess(2, *A, *B), guess(2, *A, *B), guess(4, *B, *C), guess(4, *B, *C)]
        self.assertEqual(last(*pairs, cheapest(*A, *C)), [6, 0, 2])
        pairs = [guess(3, *A, *B), guess(2, *A, *B), guess(2, *B, *C), guess(1, *B, *C)]
        self.assertEqual(last(*pairs, line(*C, *D), cheapest(*A, *D)), [3, 1, 3])
        pairs = [guess(3, *A, *B), guess(2, *A, *C), guess(2, *C, *D), guess(1, *B, *D)]
        self.assertEqual(last(*pairs, cheapest(*A, *D)), [4, 0, 3])

    def test_the_smaller_of_several_of_different_sizes(self):
        offered = [guess(2, *A, *B), guess(3, *B, *C), guess(5, *A, *C)]
        self.assertEqual(last(*offered, cheapest(*A, *C)), [5, 2])
        offered = [guess(1, *A, *B), guess(1, *B, *C), guess(1, *C, *D), guess(3, *A, *D)]
        self.assertEqual(last(*offered, cheapest(*A, *D)), [3, 3])
        offered = [guess(1, *A, *B), guess(1, *B, *C), guess(2, *C, *D), guess(3, *B, *D)]
        self.assertEqual(last(*offered, cheapest(*A, *D)), [4, 0, 3])

    def test_a_larger_set_that_is_cheaper(self):
        offered = [guess(2, *A, *B), guess(2, *B, *C), guess(5, *A, *C)]
        self.assertEqual(last(*offered, cheapest(*A, *C)), [4, 0, 1])
        offered = [guess(1000, *A, *D), guess(1, *A, *B), guess(1, *B, *C), guess(1, *C, *D)]
        results = run(*offered, answers_of(*A, *D), cheapest(*A, *D))
        self.assertEqual(results[-2:], [[2, 1, 0, 3, 1, 2, 3], [3, 1, 2, 3]])

    def test_all_four_with_the_highest_price(self):
        offered = [guess(1000, *D, 6, 0, *ALL), guess(1000, *C, *D), guess(1000, *B, *C), guess(1000, *A, *B)]
        self.assertEqual(last(*offered, cheapest(*A, 6, 0, *ALL)), [4000, 0, 1, 2, 3])

    def test_what_is_cheap_but_not_compatible(self):
        offered = [guess(1, *A, *NONE), guess(20, *A, *B), guess(10, *A, *C), guess(11, *C, *B)]
        self.assertEqual(last(*offered, cheapest(*A, *B)), [1, 0])
        self.assertEqual(last(*offered, keep(*A), cheapest(*A, *B)), [20, 1])
        self.assertEqual(last(*offered, keep(*A), keep(3, *C, 5, *B), cheapest(*A, *B)), [20, 1])
        self.assertEqual(last(*offered, keep(3, *A, 5, *B), cheapest(*A, *B)), [-6])

    def test_prices_after_begins(self):
        before = [guess(1, *A, *B), guess(2, *A, *B), begins()]
        self.assertEqual(last(*before, guess(9, *A, *B), guess(8, *A, *B), cheapest(*A, *B)), [8, 1])
        self.assertEqual(last(*before, cheapest(*A, *B)), [-6])


if __name__ == "__main__":
    unittest.main()
