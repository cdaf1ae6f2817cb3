"""Which sets of hypotheses are explanations, and in which order they are given."""

import random
import unittest

from helper import Expectation, answers_of, begins, guess, keep, last, line, run

A, B, C, D = (2, 0), (2, 1), (2, 2), (2, 3)
ALL, NONE = (0,), (1,)


def sets_of(result):
    """The sets in a result of answers_of."""
    assert result[0] >= 0
    sets, place = [], 1
    for _ in range(result[0]):
        sets.append(result[place + 1:place + 1 + result[place]])
        place += 1 + result[place]
    assert place == len(result)
    return sets


class Sets(unittest.TestCase):
    def test_no_hypotheses(self):
        self.assertEqual(last(answers_of(*A, *A)), [1, 0])
        self.assertEqual(last(answers_of(*A, *B)), [0])

    def test_the_empty_set_is_the_only_explanation_if_it_is_sufficient(self):
        offered = [guess(1, *A, *B), guess(1, *A, *NONE), guess(1, *ALL, *B)]
        self.assertEqual(last(*offered, answers_of(*A, *B)), [3, 1, 0, 1, 1, 1, 2])
        self.assertEqual(last(*offered, line(*A, *B), answers_of(*A, *B)), [1, 0])

    def test_a_useless_hypothesis_is_left_out(self):
        offered = [guess(1, *C, *D), guess(1, *A, *B), guess(1, *B, *A)]
        self.assertEqual(last(*offered, answers_of(*A, *B)), [1, 1, 1])

    def test_equal_hypotheses_each_explain(self):
        offered = [guess(1, *A, *B), guess(900, *A, *B), guess(1, *A, *B), guess(1, *A, *B)]
        self.assertEqual(last(*offered, answers_of(*A, *B)), [4, 1, 0, 1, 1, 1, 2, 1, 3])

    def test_sets_of_the_same_size_by_the_first_difference(self):
        offered = [guess(1, *A, *B), guess(1, *A, *B), guess(1, *B, *C), guess(1, *B, *C)]
        self.assertEqual(sets_of(last(*offered, answers_of(*A, *C))), [[0, 2], [0, 3], [1, 2], [1, 3]])

    def test_sets_of_different_sizes(self):
        offered = [guess(1, *A, *B), guess(1, *B, *C), guess(1, *C, *D), guess(1, *A, *D)]
        self.assertEqual(sets_of(last(*offered, answers_of(*A, *D))), [[3], [0, 1, 2]])
        offered = [guess(1, *A, *B), guess(1, *B, *D), guess(1, *B, *C), guess(1, *C, *D)]
        self.assertEqual(sets_of(last(*offered, answers_of(*A, *D))), [[0, 1], [0, 2, 3]])

    def test_all_four_hypotheses_are_needed(self):
        offered = [guess(1, *D, 6, 0, *ALL), guess(1, *C, *D), guess(1, *B, *C), guess(1, *A, *B)]
        self.assertEqual(last(*offered, answers_of(*A, 6, 0, *ALL)), [1, 4, 0, 1, 2, 3])

    def test_prices_do_not_change_the_order(self):
        offered = [guess(1000, *A, *B), guess(1, *A, *B), guess(500, *A, *B)]
        self.assertEqual(sets_of(last(*offered, answers_of(*A, *B))), [[0], [1], [2]])


class Protection(unittest.TestCase):
    def test_sets_are_ruled_out(self):
        offered = [guess(1, *A, *NONE), guess(1, *A, *B), guess(1, *ALL, *NONE)]
        self.assertEqual(sets_of(last(*offered, answers_of(*A, *B))), [[0], [1], [2]])
        self.assertEqual(sets_of(last(*offered, keep(*C), answers_of(*A, *B))), [[0], [1]])
        self.assertEqual(sets_of(last(*offered, keep(*A), answers_of(*A, *B))), [[1]])
        with_without_b = (3, *A, 5, *B)
        self.assertEqual(last(*offered, keep(*with_without_b), answers_of(*A, *B)), [0])

    def test_each_protected_concept_counts(self):
        offered = [guess(1, *A, *NONE), guess(1, *C, *NONE), guess(1, 4, *A, *C, *B)]
        asked = answers_of(4, *A, *C, *B)
        self.assertEqual(sets_of(last(*offered, asked)), [[2], [0, 1]])
        self.assertEqual(sets_of(last(*offered, keep(*A), asked)), [[2]])
        self.assertEqual(sets_of(last(*offered, keep(*D), keep(*C), asked)), [[2]])
        self.assertEqual(sets_of(last(*offered, keep(*C), keep(*D), asked)), [[2]])

    def test_protected_concepts_may_be_had_in_different_models(self):
        # With the first hypothesis, no model has elements of both sorts.
        offered = [guess(1, *A, 7, 0, *NONE), guess(1, *ALL, 6, 0, *ALL)]
        self.assertEqual(last(*offered, keep(*A), keep(6, 0, *ALL), answers_of(*A, 7, 0, *NONE)), [1, 1, 0])
        apart = [line(6, 0, *ALL, *NONE), guess(1, *A, *C), guess(1, *A, 5, *B)]
        self.assertEqual(last(*apart, keep(3, *A, *C), keep(3, *A, *B), answers_of(*A, *C)), [1, 1, 0])

    def test_protected_concepts_that_exclude_each_other_in_one_element(self):
        self.assertEqual(last(guess(1, *B, *C), keep(*A), keep(5, *A), answers_of(*B, *C)), [1, 1, 0])

    def test_nothing_is_sufficient_if_the_axioms_rule_a_protected_concept_out(self):
        stated = [line(*A, *NONE), guess(1, *B, *C)]
        self.assertEqual(last(*stated, answers_of(*A, *B)), [1, 0])
        self.assertEqual(last(*stated, keep(*A), answers_of(*A, *B)), [0])
        self.assertEqual(last(*stated, keep(*A), answers_of(*B, *B)), [0])
        self.assertEqual(last(keep(*NONE), answers_of(*ALL, *ALL)), [0])

    def test_contradictory_axioms_are_sufficient_without_protected_concepts(self):
        self.assertEqual(last(line(*ALL, *NONE), guess(1, *A, *B), answers_of(*ALL, *NONE)), [1, 0])
        self.assertEqual(last(line(*ALL, *NONE), keep(*ALL), answers_of(*ALL, *NONE)), [0])


class RandomCalls(unittest.TestCase):
    """Lists of calls made anew each time from the same beginnings, so always the same ones."""

    def concept(self, source, depth):
        head = source.choice((0, 1, 2, 2, 2, 2, 2, 3, 4, 5, 6, 7)) if depth else source.choice((0, 2, 2, 2))
        if head in (0, 1):
            return [head]
        if head == 2:
            return [2, source.randrange(source.choice((2, 3, 4)))]
        if head in (3, 4):
            return [head, *self.concept(source, depth - 1), *self.concept(source, depth - 1)]
        if head == 5:
            return [5, *self.concept(source, depth - 1)]
        return [head, source.choice((0, 0, 1)), *self.concept(source, depth - 1)]

    def pair(self, source):
        numbers = self.concept(source, 2) + self.concept(source, 2)
        if source.randrange(25) == 0:
            numbers[source.randrange(len(numbers))] = source.randrange(9)
        return numbers

    def call(self, source):
        chance = source.randrange(40)
        if chance == 0:
            return begins()
        if chance < 10:
            return line(*self.pair(source))
        if chance < 22:
            return guess(source.choice((1, 5, 1000, 1, 5, 1000, 0, 1001)), *self.pair(source))
        if chance < 28:
            return keep(*self.concept(source, 2))
        return answers_of(*self.pair(source))

    def calls(self, seed):
        source = random.Random(seed)
        calls = [self.call(source) for _ in range(source.randrange(1, 60))]
        asked = [place for place, call in enumerate(calls) if call[0] == 4]
        return [call for place, call in enumerate(calls) if place not in asked[5:]]

    def pooled(self, source, pool, depth):
        """A concept over the atoms of the pool."""
        head = source.choice((2, 2, 2, 2, 3, 4, 5, 5)) if depth else 2
        if head == 2:
            return source.choice((*pool, *pool, *pool, *pool, [1]))
        parts = [self.pooled(source, pool, depth - 1) for _ in range(1 if head == 5 else 2)]
        return [head, *[number for part in parts for number in part]]

    def pool(self, source):
        """At most five atoms, with all that occur in them."""
        pool = [[2, 0], [2, 1], *[[2, 2]][:source.randrange(2)]]
        while len(pool) < 5:
            pool.append([source.choice((6, 7)), source.choice((0, 0, 1)), *self.pooled(source, pool, 1)])
        return pool

    def dense_calls(self, seed):
        """Few axioms, many hypotheses and questions, with atoms that are shared by all of them."""
        source = random.Random(seed)
        pool = self.pool(source)

        def pair():
            return self.pooled(source, pool, 1) + self.pooled(source, pool, 1)

        calls = [line(*pair()) for _ in range(source.randrange(3))]
        calls += [guess(source.randrange(1, 1001), *pair()) for _ in range(source.randrange(2, 5))]
        asked = [answers_of(*pair()) for _ in range(2)]
        return calls + asked + [keep(*self.pooled(source, pool, 1)), asked[0], keep(*source.choice(pool)), *asked]

    def assert_by_the_plain_words(self, calls, seed):
        expectation = Expectation()
        results = run(*calls)
        self.assertEqual(results, [expectation.apply(call) for call in calls], seed)
        return results

    def test_results_are_those_of_the_plain_words(self):
        for seed in range(400):
            self.assert_by_the_plain_words(self.calls(seed), seed)

    def test_explanations_are_those_of_the_plain_words(self):
        sizes = []
        for seed in range(400):
            calls = self.dense_calls(seed)
            results = self.assert_by_the_plain_words(calls, seed)
            for call, result in zip(calls, results):
                if call[0] == 4 and result[0] > 0:
                    sizes.extend([len(chosen) for chosen in sets_of(result)])
        for size, least in enumerate((200, 100, 30, 0)):
            self.assertGreater(sizes.count(size), least)

    def test_calls_with_errors_change_nothing(self):
        refused = 0
        for seed in range(400, 600):
            calls = self.calls(seed)
            results = run(*calls)
            kept = [place for place, result in enumerate(results) if result[0] >= 0]
            refused += len(calls) - len(kept)
            if kept:
                self.assertEqual(run(*[calls[place] for place in kept]), [results[place] for place in kept], seed)
        self.assertGreater(refused, 1000)

    def test_an_additional_hypothesis_removes_no_explanation(self):
        compared = 0
        for seed in range(1000, 2000):
            calls = self.dense_calls(seed)
            guesses = [call for call in calls if call[0] == 2]
            for question in [call for call in calls if call[0] == 4][:2]:
                before = [call for call in calls if call[0] in (1, 3)] + guesses[:-1]
                results = run(*before, question, guesses[-1], question)
                found = sets_of(results[-1])
                for chosen in sets_of(results[-3]):
                    self.assertIn(chosen, found, seed)
                    compared += len(chosen) > 0
        self.assertGreater(compared, 100)


if __name__ == "__main__":
    unittest.main()
