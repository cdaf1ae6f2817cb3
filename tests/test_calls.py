"""How calls are handed in, what is given back, and what is left as it was."""

import unittest

from helper import answers_of, begins, guess, keep, last, line, run
from missingaxioms.guesses import answers


class Calls(unittest.TestCase):
    def test_one_call(self):
        self.assertEqual(answers([0]), [1, 0])
        self.assertEqual(answers([1, 2, 0, 0]), [1, 0])
        self.assertEqual(answers([2, 1000, 2, 0, 0]), [1, 0])
        self.assertEqual(answers([3, 1, 0]), [1, 0])
        self.assertEqual(answers([4, 2, 0, 0]), [2, 1, 0])
        self.assertEqual(answers([4, 2, 0, 1]), [1, 0])

    def test_empty_rows(self):
        self.assertEqual(answers([1, 0]), [1, -1])
        self.assertEqual(answers([2, 5, 0]), [1, -1])
        self.assertEqual(answers([3, 0]), [1, -1])
        self.assertEqual(answers([4, 0]), [1, -1])
        self.assertEqual(answers([4, 0, 3, 0, 2, 1, 0, 1, 0, 0]), [1, -1, 1, -1, 1, -1, 1, -1, 1, 0])

    def test_begins_in_the_middle(self):
        before = [line(2, 0, 2, 1), guess(1, 2, 1, 2, 2), keep(2, 0)]
        asked = answers_of(2, 0, 2, 2)
        results = run(*before, asked, begins(), asked, *before, asked)
        self.assertEqual(results, [[0], [0], [0], [1, 1, 0], [0], [0], [0], [0], [0], [1, 1, 0]])

    def test_begins_removes_each_sort(self):
        self.assertEqual(run(line(0, 1), begins(), answers_of(0, 1))[1:], [[0], [0]])
        self.assertEqual(run(guess(1, 0, 1), begins(), answers_of(0, 1))[1:], [[0], [0]])
        self.assertEqual(run(keep(1), begins(), answers_of(0, 0))[1:], [[0], [1, 0]])

    def test_begins_makes_room(self):
        full = [line(0, 0)] * 4 + [guess(1, 0, 0)] * 4 + [keep(0)] * 2
        results = run(*full, *full, begins(), *full)
        self.assertEqual(results[:10], [[0], [1], [2], [3], [0], [1], [2], [3], [0], [1]])
        self.assertEqual(results[10:20], [[-7]] * 10)
        self.assertEqual(results[20:], [[0], *results[:10]])

    def test_begins_twice_and_at_both_ends(self):
        self.assertEqual(run(begins(), begins(), line(0, 0), begins()), [[0]] * 4)

    def test_nothing_is_kept_from_one_list_to_the_next(self):
        first = line(0, 1) + guess(1, 2, 0, 1) + keep(1) + answers_of(0, 0)
        self.assertEqual(answers(first), [1, 0, 1, 0, 1, 0, 1, 0])
        self.assertEqual(answers(answers_of(0, 0)), [2, 1, 0])
        self.assertEqual(answers(answers_of(0, 1)), [1, 0])
        self.assertEqual(answers(answers_of(2, 0, 1)), [1, 0])
        self.assertEqual(answers(line(0, 0)), [1, 0])
        self.assertEqual(answers(first), [1, 0, 1, 0, 1, 0, 1, 0])

    def test_the_list_handed_in_stays(self):
        calls = line(2, 0, 2, 1) + guess(3, 2, 1, 6, 0, 2, 2) + keep(5, 2, 0) + answers_of(2, 0, 6, 0, 2, 2) + line(2)
        before = list(calls)
        answers(calls)
        self.assertEqual(calls, before)

    def test_what_is_given_back_is_a_list_of_whole_numbers(self):
        given = answers(line(2, 0, 2, 1) + guess(3, 2, 1, 2, 2) + answers_of(2, 0, 2, 2) + keep(4))
        self.assertIs(type(given), list)
        self.assertEqual({type(number) for number in given}, {int})

    def test_asking_changes_nothing(self):
        stated = [guess(1, 2, 0, 2, 1), guess(1, 2, 1, 2, 2)]
        asked = [answers_of(2, 0, 2, 2), answers_of(2, 0, 2, 1), answers_of(2, 1, 2, 0)]
        results = run(*stated, *asked, *asked[:2], line(2, 0, 2, 1))
        self.assertEqual(results[2:], [[1, 2, 0, 1], [1, 1, 0], [0], [1, 2, 0, 1], [1, 1, 0], [0]])

    def test_later_calls_apply_after_a_question(self):
        asked = answers_of(2, 0, 2, 2)
        results = run(asked, guess(1, 2, 0, 2, 2), asked, keep(2, 0), asked, line(2, 2, 1), asked)
        self.assertEqual(results[::2], [[0], [1, 1, 0], [1, 1, 0], [0]])

    def test_the_longest_list(self):
        thirty = (5,) * 26 + (2, 0, 2, 1)
        calls = [guess(1, *thirty)] * 54 + [answers_of(*thirty)] * 5 + [begins()]
        results = run(*calls)
        self.assertEqual(results[:5], [[0], [1], [2], [3], [-7]])
        self.assertEqual(results[54:], [[4, 1, 0, 1, 1, 1, 2, 1, 3]] * 5 + [[0]])
        self.assertEqual(last(*[line(*thirty)] * 59, begins()), [0])


if __name__ == "__main__":
    unittest.main()
