"""The greatest compatible sets of hypotheses, and their order."""

import unittest

from helper import begins, greatest, guess, keep, last, line, run, sets_of, take

A, B, C, D = (2, 0), (2, 1), (2, 2), (2, 3)
ALL, NONE = (0,), (1,)


def no(concept):
    return (5, *concept)


def alike(first, second):
    """Either both concepts, or none of them."""
    return (4, 3, *first, *second, 3, *no(first), *no(second))


class Greatest(unittest.TestCase):
    def test_nothing_at_all(self):
        self.assertEqual(last(greatest()), [1, 0])

    def test_no_hypotheses(self):
        self.assertEqual(last(line(*A, *B), greatest()), [1, 0])
        self.assertEqual(last(keep(*A), greatest()), [1, 0])
        self.assertEqual(last(keep(*NONE), greatest()), [0])

    def test_no_protected_concepts(self):
        offered = [guess(1, *A, *B), guess(1, *A, *NONE), guess(1, *ALL, *NONE), guess(1, *C, *D)]
        for count in range(5):
            self.assertEqual(last(*offered[:count], greatest()), [1, count, *range(count)])
        self.assertEqual(last(line(*ALL, *NONE), *offered, greatest()), [1, 4, 0, 1, 2, 3])

    def test_all_are_compatible(self):
        offered = [guess(1, *A, *B), guess(1, *B, *C), guess(1, *C, *D), guess(1, *D, *A)]
        self.assertEqual(last(*offered, keep(*A), keep(*no(A)), greatest()), [1, 4, 0, 1, 2, 3])

    def test_no_compatible_set(self):
        for axioms in ([line(*A, *NONE)], [line(*A, *B), line(*A, *no(B))], [line(*ALL, *NONE)]):
            self.assertEqual(last(*axioms, keep(*A), greatest()), [0])
            self.assertEqual(last(*axioms, guess(1, *A, *B), guess(1, *C, *D), keep(*A), greatest()), [0])
        self.assertEqual(last(keep(*C), guess(1, *A, *B), keep(3, *A, *no(A)), greatest()), [0])
        self.assertEqual(last(line(*A, *NONE), guess(1, *A, *B), keep(*A), keep(*C), greatest()), [0])
        self.assertEqual(last(line(*A, *NONE), guess(1, *A, *B), keep(*C), keep(*A), greatest()), [0])

    def test_the_empty_set_alone(self):
        self.assertEqual(last(guess(1, *A, *NONE), keep(*A), greatest()), [1, 0])
        offered = [guess(1, *A, *NONE), guess(1, *ALL, *no(A)), guess(1, *ALL, *NONE), guess(1, *A, *no(A))]
        self.assertEqual(last(*offered, keep(*A), greatest()), [1, 0])
        self.assertEqual(last(*offered, keep(*B), greatest()), [1, 3, 0, 1, 3])

    def test_one_hypothesis_is_left_out(self):
        for place in range(4):
            offered = [guess(1, *B, *C)] * 4
            offered[place] = guess(1, *A, *NONE)
            others = [number for number in range(4) if number != place]
            self.assertEqual(last(*offered, keep(*A), greatest()), [1, 3, *others])

    def test_several_of_the_same_size(self):
        offered = [guess(1, *A, *B), guess(1, *A, *no(B))]
        self.assertEqual(last(*offered, keep(*A), greatest()), [2, 1, 0, 1, 1])
        offered = [guess(1, *A, *B), guess(1, *A, *C), guess(1, 3, *B, *C, *NONE)]
        self.assertEqual(last(*offered, keep(*A), greatest()), [3, 2, 0, 1, 2, 0, 2, 2, 1, 2])
        offered = [guess(1, *A, *B), guess(1, *A, *no(B)), guess(1, *A, *C), guess(1, *A, *no(C))]
        found = sets_of(last(*offered, keep(*A), greatest()))
        self.assertEqual(found, [[0, 2], [0, 3], [1, 2], [1, 3]])
        offered = [guess(1, *A, *B), guess(1, *B, *C), guess(1, *C, *D), guess(1, *A, *no(D))]
        found = sets_of(last(*offered, keep(*A), greatest()))
        self.assertEqual(found, [[0, 1, 2], [0, 1, 3], [0, 2, 3], [1, 2, 3]])

    def test_six_pairs(self):
        # An element with name 0 satisfies exactly two of the four, whichever other names it has.
        offered = [guess(1, *A, *B)]
        offered += [guess(1, *A, *alike(B, part)) for part in ((3, *C, *D), (3, *C, *no(D)), no(C))]
        found = sets_of(last(*offered, keep(*A), greatest()))
        self.assertEqual(found, [[0, 1], [0, 2], [0, 3], [1, 2], [1, 3], [2, 3]])

    def test_different_sizes_smaller_first(self):
        offered = [guess(1, *A, *B), guess(1, *A, *C), guess(1, *A, *no(B)), guess(1, *C, *B)]
        self.assertEqual(sets_of(last(*offered, keep(*A), greatest())), [[1, 2], [2, 3], [0, 1, 3]])
        offered = [guess(1, *A, *B), guess(1, *A, *C), guess(1, *A, *D), guess(1, 4, *B, 4, *C, *D, *NONE)]
        self.assertEqual(sets_of(last(*offered, keep(*A), greatest())), [[3], [0, 1, 2]])

    def test_prices_do_not_matter(self):
        for first, second in ((1, 1000), (1000, 1), (5, 5)):
            offered = [guess(first, *A, *B), guess(second, *A, *no(B))]
            self.assertEqual(last(*offered, keep(*A), greatest()), [2, 1, 0, 1, 1])

    def test_axioms_count(self):
        offered = [guess(1, *A, *B), guess(1, *B, *C), keep(*A)]
        self.assertEqual(last(*offered, greatest()), [1, 2, 0, 1])
        self.assertEqual(last(*offered, line(*A, *no(C)), greatest()), [2, 1, 0, 1, 1])
        self.assertEqual(last(*offered, line(*A, *no(B)), greatest()), [1, 1, 1])

    def test_each_protected_concept_counts(self):
        offered = [guess(1, *A, *NONE), guess(1, *B, *NONE), guess(1, *C, *NONE)]
        self.assertEqual(last(*offered, keep(*A), greatest()), [1, 2, 1, 2])
        self.assertEqual(last(*offered, keep(*B), greatest()), [1, 2, 0, 2])
        self.assertEqual(last(*offered, keep(*A), keep(*B), greatest()), [1, 1, 2])
        self.assertEqual(last(*offered, keep(*B), keep(*A), greatest()), [1, 1, 2])

    def test_protected_concepts_that_no_element_has_both(self):
        self.assertEqual(last(guess(1, *B, *C), keep(*A), keep(*no(A)), greatest()), [1, 1, 0])
        apart = [guess(1, *A, *C), guess(1, *B, *no(C)), guess(1, *A, *NONE), guess(1, *C, *no(B))]
        self.assertEqual(last(*apart, keep(*A), keep(*B), greatest()), [1, 3, 0, 1, 3])
        self.assertEqual(last(*apart, keep(3, *A, *B), greatest()), [2, 1, 0, 2, 1, 3])

    def test_protected_concepts_with_relations(self):
        offered = [guess(1, *A, 6, 0, *B), guess(1, *B, *NONE), guess(1, *ALL, 7, 0, *NONE)]
        self.assertEqual(last(*offered, keep(*A), greatest()), [2, 1, 0, 2, 1, 2])
        self.assertEqual(last(*offered, keep(6, 0, *ALL), greatest()), [1, 2, 0, 1])
        offered = [guess(1, *A, 6, 0, *ALL), guess(1, *A, 7, 0, *B), guess(1, *A, 7, 0, *no(B)), guess(1, *ALL, *no(B))]
        self.assertEqual(sets_of(last(*offered, keep(*A), greatest())), [[0, 1], [0, 2, 3], [1, 2, 3]])
        chain = [line(*A, 6, 0, *B), line(*B, 6, 1, *C), guess(1, *C, *NONE), guess(1, *B, *A)]
        self.assertEqual(last(*chain, keep(*A), greatest()), [1, 1, 1])
        self.assertEqual(last(*chain, keep(*D), greatest()), [1, 2, 0, 1])

    def test_after_other_calls(self):
        offered = [guess(1, *A, *NONE), guess(1, *A, *B)]
        asked = greatest()
        results = run(*offered, asked, keep(*A), asked, take(1), asked, begins(), asked)
        self.assertEqual(results[2::2], [[1, 2, 0, 1], [1, 1, 1], [1, 0], [1, 0]])
        self.assertEqual(run(*offered, keep(*A), take(0), asked)[-2:], [[1], [0]])


if __name__ == "__main__":
    unittest.main()
