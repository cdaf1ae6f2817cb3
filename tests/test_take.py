"""Hypotheses that are made axioms, and what is left behind."""

import unittest

from helper import answers_of, begins, check, cheapest, greatest, guess, keep, last, line, run, take

A, B, C, D = (2, 0), (2, 1), (2, 2), (2, 3)
ALL, NONE = (0,), (1,)
OFFERED = [guess(10, *A, *B), guess(200, *B, *C), guess(3, *C, *D), guess(1000, *D, *A)]
QUESTIONS = [(*A, *B), (*B, *C), (*C, *D), (*D, *A)]
PRICES = [10, 200, 3, 1000]


class Take(unittest.TestCase):
    def test_each_place(self):
        for place in range(4):
            left = [number for number in range(4) if number != place]
            checks = [check([], *QUESTIONS[place])]
            checks += [check([now], *QUESTIONS[before]) for now, before in enumerate(left)]
            checks += [check([], *QUESTIONS[before]) for before in left]
            results = run(*OFFERED, take(place), *checks, check([3], *A, *B))
            self.assertEqual(results[4:6], [[3], [1, 1, 0]], place)
            self.assertEqual(results[6:9], [[1, 1, PRICES[before]] for before in left], place)
            self.assertEqual(results[9:], [[0, 1, 0]] * 3 + [[-2]], place)

    def test_the_only_one(self):
        asked = [answers_of(*A, *B), cheapest(*A, *B), greatest()]
        results = run(OFFERED[0], *asked, take(0), *asked, check([0], *A, *B), take(0))
        self.assertEqual(results[1:4], [[1, 1, 0], [10, 0], [1, 1, 0]])
        self.assertEqual(results[4:], [[0], [1, 0], [0], [1, 0], [-2], [-2]])

    def test_one_after_another(self):
        results = run(*OFFERED, *[take(0)] * 4, take(0), line(*ALL, *ALL), answers_of(*B, *A))
        self.assertEqual(results[4:], [[3], [2], [1], [0], [-2], [-7], [1, 0]])
        results = run(*OFFERED, take(3), take(1), take(1), check([0], *A, *B), take(1), take(0), check([], *B, *A))
        self.assertEqual(results[4:], [[3], [2], [1], [1, 1, 10], [-2], [0], [1, 1, 0]])

    def test_numbers_in_later_answers(self):
        offered = [guess(1, *C, *D), guess(7, *A, *B), guess(5, *A, *B), guess(9, *A, *B)]
        asked = [answers_of(*A, *B), cheapest(*A, *B)]
        self.assertEqual(run(*offered, *asked)[4:], [[3, 1, 1, 1, 2, 1, 3], [5, 2]])
        self.assertEqual(run(*offered, take(0), *asked)[4:], [[3], [3, 1, 0, 1, 1, 1, 2], [5, 1]])
        self.assertEqual(run(*offered, take(0), keep(*A), greatest())[-1], [1, 3, 0, 1, 2])
        self.assertEqual(last(*offered, line(*A, *NONE), take(1), *asked), [0])

    def test_the_taken_one_holds_for_every_set(self):
        offered = [guess(1, *B, *NONE), guess(2, *A, *B), guess(3, *A, *C), keep(*A)]
        self.assertEqual(last(*offered, greatest()), [2, 2, 0, 2, 2, 1, 2])
        self.assertEqual(last(*offered, take(0), greatest()), [1, 1, 1])
        self.assertEqual(last(*offered, take(1), greatest()), [1, 1, 1])
        self.assertEqual(last(*offered, take(2), greatest()), [2, 1, 0, 1, 1])

    def test_one_that_is_not_compatible(self):
        offered = [guess(1, *A, *NONE), guess(1, *A, *B), keep(*A)]
        results = run(*offered, take(0), answers_of(*A, *B), cheapest(*A, *B), greatest(), check([0], *A, *B))
        self.assertEqual(results[3:], [[1], [0], [-6], [0], [1, 0, 1]])

    def test_lines_and_guesses_behind_it(self):
        results = run(line(*A, *A), *OFFERED[:3], take(1), line(*D, *D), guess(50, *B, *C), check([2], *B, *D))
        self.assertEqual(results, [[0], [0], [1], [2], [2], [2], [2], [0, 1, 50]])
        results = run(*OFFERED, take(0), guess(50, *A, *C), guess(50, *A, *D), line(*ALL, *ALL), check([3], *A, *A))
        self.assertEqual(results[4:], [[3], [3], [-7], [1], [1, 1, 50]])

    def test_atoms_stay_the_same(self):
        five = [guess(1, *A, *B), guess(1, *C, *D), keep(6, 0, *A)]
        for place in (0, 1):
            results = run(*five, take(place), keep(6, 1, *A), answers_of(6, 0, *A, *D), answers_of(6, 1, *A, *D))
            self.assertEqual(results[3:], [[1], [-7], [0], [-7]])

    def test_begins_behind_it(self):
        results = run(*OFFERED, take(0), begins(), answers_of(*A, *B), take(0), line(*A, *A), guess(1, *A, *B), take(0))
        self.assertEqual(results[4:], [[3], [0], [0], [-2], [0], [0], [0]])


class Errors(unittest.TestCase):
    def test_no_such_hypothesis(self):
        for count in range(5):
            for index in (count, count + 1, 9, 4294967295):
                results = run(*OFFERED[:count], take(index), check(range(count), *A, *A))
                self.assertEqual(results[count:], [[-2], [1, 1, sum(PRICES[:count])]])

    def test_four_axioms(self):
        axioms = [line(*ALL, *ALL)] * 4
        for index in range(4):
            calls = [*axioms, *OFFERED, take(index), check([0, 1, 2, 3], *B, *A), check([], *QUESTIONS[index])]
            self.assertEqual(run(*calls)[8:], [[-7], [1, 1, 1213], [0, 1, 0]])
        self.assertEqual(run(*axioms[:3], *OFFERED, take(0), take(0))[7:], [[3], [-7]])

    def test_no_such_hypothesis_comes_before_four_axioms(self):
        axioms = [line(*ALL, *ALL)] * 4
        self.assertEqual(last(*axioms, take(0)), [-2])
        self.assertEqual(last(*axioms, *OFFERED, take(4)), [-2])
        self.assertEqual(last(*axioms, *OFFERED, take(4294967295)), [-2])


class SingleExplanation(unittest.TestCase):
    def test_the_empty_set_is_the_only_explanation_then(self):
        offered = [guess(5, *A, *B), guess(6, *B, *C), guess(7, *A, *C), guess(8, *A, *NONE)]
        asked = answers_of(*A, *C)
        self.assertEqual(last(*offered, asked), [3, 1, 2, 1, 3, 2, 0, 1])
        self.assertEqual(run(*offered, take(2), asked)[-2:], [[3], [1, 0]])
        self.assertEqual(run(*offered, take(3), asked)[-2:], [[3], [1, 0]])
        self.assertEqual(run(*offered, take(0), asked)[-2:], [[3], [3, 1, 0, 1, 1, 1, 2]])
        self.assertEqual(run(*offered, keep(*A), take(2), asked)[-2:], [[3], [1, 0]])


if __name__ == "__main__":
    unittest.main()
