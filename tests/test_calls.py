"""How calls are handed in, what is given back, and what is left as it was."""

import unittest

from helper import answers_of, begins, check, cheapest, greatest, guess, keep, last, line, run, take
from missingaxioms.guesses import answers


class Calls(unittest.TestCase):
    def test_one_call(self):
        self.assertEqual(answers([0]), [1, 0])
        self.assertEqual(answers([1, 2, 0, 0]), [1, 0])
        self.assertEqual(answers([2, 1000, 2, 0, 0]), [1, 0])
        self.assertEqual(answers([3, 1, 0]), [1, 0])
        self.assertEqual(answers([4, 2, 0, 0]), [2, 1, 0])
        self.assertEqual(answers([4, 2, 0, 1]), [1, 0])
        self.assertEqual(answers([5, 2, 0, 0]), [1, 0])
        self.assertEqual(answers([5, 2, 0, 1]), [1, -6])
        self.assertEqual(answers([6, 0, 2, 0, 0]), [3, 1, 1, 0])
        self.assertEqual(answers([6, 0, 2, 0, 1]), [3, 0, 1, 0])
        self.assertEqual(answers([6, 1, 0, 2, 0, 0]), [1, -2])
        self.assertEqual(answers([7]), [2, 1, 0])
        self.assertEqual(answers([8, 0]), [1, -2])
        self.assertEqual(answers([8, 4294967295]), [1, -2])

    def test_check_is_handed_guesses_first(self):
        stated = [2, 6, 2, 0, 1, 2, 7, 2, 0, 0]
        self.assertEqual(answers(stated + [6, 2, 0, 1, 2, 0, 1]), [1, 0, 1, 1, 3, 1, 1, 13])
        self.assertEqual(answers(stated + [6, 2, 0, 0, 2, 0, 1]), [1, 0, 1, 1, 1, -2])
        self.assertEqual(answers(stated + [6, 1, 1, 2, 0, 1]), [1, 0, 1, 1, 3, 0, 1, 7])

    def test_empty_rows(self):
        self.assertEqual(answers([1, 0]), [1, -1])
        self.assertEqual(answers([2, 5, 0]), [1, -1])
        self.assertEqual(answers([3, 0]), [1, -1])
        self.assertEqual(answers([4, 0]), [1, -1])
        self.assertEqual(answers([5, 0]), [1, -1])
        self.assertEqual(answers([6, 0, 0]), [1, -1])
        self.assertEqual(answers([6, 1, 9, 0]), [1, -1])
        self.assertEqual(answers([6, 0, 0, 7, 8, 0, 5, 0, 0]), [1, -1, 2, 1, 0, 1, -2, 1, -1, 1, 0])
        self.assertEqual(answers([4, 0, 3, 0, 2, 1, 0, 1, 0, 0]), [1, -1, 1, -1, 1, -1, 1, -1, 1, 0])

    def test_begins_in_the_middle(self):
        before = [line(2, 0, 2, 1), guess(1, 2, 1, 2, 2), keep(2, 0)]
        asked = answers_of(2, 0, 2, 2)
        results = run(*before, asked, begins(), asked, *before, asked)
        self.assertEqual(results, [[0], [0], [0], [1, 1, 0], [0], [0], [0], [0], [0], [1, 1, 0]])

    def test_begins_removes_each_sort(self):
        self.assertEqual(run(line(0, 1), begins(), answers_of(0, 1))[1:], [[0], [0]])
        self.assertEqual(run(guess(1, 0, 1), begins(), answers_of(0, 1))[1:], [[0], [0]])
        self.assertEqual(run(keep(1), begins(), answers_of(0, 0))[1:], [[0], [1, 0]])

    def test_begins_behind_each_call(self):
        stated = [guess(3, 2, 0, 2, 1), guess(2, 2, 0, 2, 1), keep(2, 0)]
        results = [[0], [1], [0], [2, 1], [1, 1, 3], [1, 2, 0, 1], [1], [0]]
        calls = [cheapest(2, 0, 2, 1), check([0], 2, 0, 2, 1), greatest(), take(1), begins()]
        self.assertEqual(run(*stated, *calls, *stated, *calls), results * 2)
        for call, result in zip(calls, results[3:]):
            after = run(*stated, call, begins(), cheapest(2, 0, 2, 1), check([], 0, 0), check([0], 0, 0), greatest())
            self.assertEqual(after[3:], [result, [0], [-6], [1, 1, 0], [-2], [1, 0]])
            self.assertEqual(run(*stated, call, begins(), take(0), line(0, 0), *stated)[5:], [[-2], [0], [0], [1], [0]])

    def test_begins_makes_room(self):
        full = [line(0, 0)] * 4 + [guess(1, 0, 0)] * 4 + [keep(0)] * 2
        results = run(*full, *full, begins(), *full)
        self.assertEqual(results[:10], [[0], [1], [2], [3], [0], [1], [2], [3], [0], [1]])
        self.assertEqual(results[10:20], [[-7]] * 10)
        self.assertEqual(results[20:], [[0], *results[:10]])

    def test_begins_twice_and_at_both_ends(self):
        self.assertEqual(run(begins(), begins(), line(0, 0), begins()), [[0]] * 4)

    def test_nothing_is_kept_from_one_list_to_the_next(self):
        first = line(0, 1) + guess(1, 2, 0, 1) + keep(1) + answers_of(0, 0)
        self.assertEqual(answers(first), [1, 0, 1, 0, 1, 0, 1, 0])
        self.assertEqual(answers(answers_of(0, 0)), [2, 1, 0])
        self.assertEqual(answers(answers_of(0, 1)), [1, 0])
        self.assertEqual(answers(answers_of(2, 0, 1)), [1, 0])
        self.assertEqual(answers(line(0, 0)), [1, 0])
        self.assertEqual(answers(first), [1, 0, 1, 0, 1, 0, 1, 0])

    def test_two_lists_one_after_another(self):
        asked = cheapest(2, 0, 2, 1) + check([], 2, 0, 2, 1) + greatest() + take(0)
        first = guess(3, 2, 0, 2, 1) + guess(4, 2, 0, 1) + keep(2, 0) + asked
        results = [1, 0, 1, 1, 1, 0, 2, 3, 0, 3, 0, 1, 0, 3, 1, 1, 0, 1, 1]
        for calls, expected in ((first, results), (asked, [1, -6, 3, 0, 1, 0, 2, 1, 0, 1, -2])) * 2:
            self.assertEqual(answers(calls), expected)
        self.assertEqual(answers(check([0], 0, 0)), [1, -2])
        self.assertEqual(answers(guess(5, 0, 1) + check([0], 0, 0)), [1, 0, 3, 1, 1, 5])

    def test_the_list_handed_in_stays(self):
        calls = line(2, 0, 2, 1) + guess(3, 2, 1, 6, 0, 2, 2) + keep(5, 2, 0) + answers_of(2, 0, 6, 0, 2, 2) + line(2)
        calls += cheapest(2, 0, 6, 0, 2, 2) + check([0], 2, 0, 2, 1) + check([0, 0], 2, 0, 2, 1) + greatest() + take(0)
        before = list(calls)
        answers(calls)
        self.assertEqual(calls, before)

    def test_what_is_given_back_is_a_list_of_whole_numbers(self):
        stated = line(2, 0, 2, 1) + guess(3, 2, 1, 2, 2)
        for calls in (
            answers_of(2, 0, 2, 2) + keep(4), cheapest(2, 0, 2, 2), check([0], 2, 0, 2, 2), check([], 2, 0, 2, 2),
            keep(1) + check([0], 2, 3, 2, 0), greatest(), take(0),
        ):
            given = answers(stated + calls)
            self.assertIs(type(given), list)
            self.assertEqual({type(number) for number in given}, {int})

    def test_asking_changes_nothing(self):
        stated = [guess(1, 2, 0, 2, 1), guess(1, 2, 1, 2, 2)]
        asked = [answers_of(2, 0, 2, 2), answers_of(2, 0, 2, 1), answers_of(2, 1, 2, 0)]
        results = run(*stated, *asked, *asked[:2], line(2, 0, 2, 1))
        self.assertEqual(results[2:], [[1, 2, 0, 1], [1, 1, 0], [0], [1, 2, 0, 1], [1, 1, 0], [0]])

    def test_asking_for_the_cheapest_and_greatest_changes_nothing(self):
        stated = [guess(1, 2, 0, 2, 1), guess(1, 2, 1, 2, 2), keep(2, 0)]
        asked = [cheapest(2, 0, 2, 2), greatest(), check([1], 2, 0, 2, 2), check([0, 1], 2, 0, 2, 2)]
        results = run(*stated, *asked, *asked, take(0), line(0, 0), keep(2, 3))
        answered = [[2, 0, 1], [1, 2, 0, 1], [0, 1, 1], [1, 1, 2]]
        self.assertEqual(results[3:], [*answered, *answered, [1], [1], [1]])

    def test_later_calls_apply_after_a_question(self):
        asked = answers_of(2, 0, 2, 2)
        results = run(asked, guess(1, 2, 0, 2, 2), asked, keep(2, 0), asked, line(2, 2, 1), asked)
        self.assertEqual(results[::2], [[0], [1, 1, 0], [1, 1, 0], [0]])

    def test_the_longest_list(self):
        thirty = (5,) * 26 + (2, 0, 2, 1)
        calls = [guess(1, *thirty)] * 54 + [answers_of(*thirty)] * 5 + [begins()]
        results = run(*calls)
        self.assertEqual(results[:5], [[0], [1], [2], [3], [-7]])
        self.assertEqual(results[54:], [[4, 1, 0, 1, 1, 1, 2, 1, 3]] * 5 + [[0]])
        self.assertEqual(last(*[line(*thirty)] * 59, begins()), [0])
        wrong = list(range(30))
        calls = [guess(1000, *thirty)] * 44 + [check([0, 1], *thirty), *[check(wrong, *thirty)] * 9]
        results = run(*calls, *[cheapest(*thirty)] * 2, *[greatest()] * 3, take(4294967295))
        self.assertEqual(results[44:], [[1, 1, 2000], *[[-2]] * 9, *[[1000, 0]] * 2, *[[1, 4, 0, 1, 2, 3]] * 3, [-2]])


if __name__ == "__main__":
    unittest.main()
