"""How concepts are written, and how their atoms are counted."""

import unittest

from helper import answers_of, atoms, begins, guess, keep, last, line, parse, run
from missingaxioms.concepts import atoms_in, split_concepts


class Concepts(unittest.TestCase):
    def test_each_sort_of_concept_is_taken(self):
        for concept in (
            (0,), (1,), (2, 0), (2, 3), (3, 0, 1), (4, 2, 0, 1), (5, 0), (5, 5, 5, 2, 2),
            (6, 0, 0), (6, 1, 2, 3), (7, 0, 1), (7, 1, 5, 2, 0), (6, 1, 7, 0, 3, 2, 0, 5, 2, 1),
        ):
            self.assertEqual(last(keep(*concept)), [0], concept)
            self.assertEqual(last(line(*concept, *concept)), [0], concept)
            self.assertEqual(last(answers_of(*concept, *concept)), [1, 0], concept)

    def test_names_and_roles(self):
        self.assertEqual(run(keep(2, 3), keep(2, 4)), [[0], [-1]])
        self.assertEqual(run(keep(6, 1, 0), keep(6, 2, 0)), [[0], [-1]])
        self.assertEqual(run(keep(7, 1, 0), keep(7, 2, 0)), [[0], [-1]])

    def test_thirty_numbers(self):
        self.assertEqual(last(keep(*(5,) * 28, 2, 0)), [0])
        self.assertEqual(last(answers_of(*(5,) * 26, 2, 0, 2, 0)), [1, 0])
        self.assertEqual(last(answers_of(*(5,) * 25, 2, 0, 5, 2, 0)), [1, 0])
        self.assertEqual(last(answers_of(*(5,) * 25, 2, 0, 0, 2, 0)), [-1])
        self.assertEqual(last(line(*(3, 0) * 14, 0, 0)), [0])
        self.assertEqual(last(guess(1, *(3,) * 13, *(0,) * 14, 5, 5, 0)), [0])
        self.assertEqual(last(keep(*(3,) * 14, *(0,) * 14, 2, 2)), [0])
        self.assertEqual(last(keep(*(0,) * 30)), [-1])
        self.assertEqual(last(answers_of(*(6, 0) * 14, 0, 0)), [-7])

    def test_splitting_agrees_with_a_recursive_reading(self):
        for numbers in short_lists((0, 2, 3, 5, 6, 8), 5):
            expected = parse(numbers)
            found = split_concepts(numbers)
            self.assertEqual(len(found), len(expected or []), numbers)
            self.assertEqual([number for concept in found for number in concept], numbers if expected else [])
            for concept in found:
                self.assertEqual(len(atoms_in([concept])), len(atoms(parse(concept)[0])))

    def test_equal_atoms_are_counted_once(self):
        calls = [line(2, 0, 2, 0), guess(1, 3, 2, 0, 2, 1, 2, 1), keep(4, 6, 0, 2, 0, 6, 0, 2, 0)]
        self.assertEqual(run(*calls, line(2, 2, 2, 3), answers_of(6, 0, 2, 0, 2, 3))[-2:], [[1], [0]])

    def test_atoms_are_equal_only_if_written_alike(self):
        four = [line(2, 0, 2, 1), keep(6, 0, 3, 2, 0, 2, 1), line(2, 2, 0)]
        self.assertEqual(run(*four), [[0], [0], [1]])
        others = [(6, 0, 3, 2, 1, 2, 0), (6, 1, 3, 2, 0, 2, 1), (7, 0, 3, 2, 0, 2, 1), (6, 0, 5, 5, 3, 2, 0, 2, 1)]
        for fifth in others:
            self.assertEqual(run(*four, keep(*fifth), answers_of(2, 3, 0))[-2:], [[1], [-7]])
        self.assertEqual(run(*four, keep(6, 0, 3, 2, 0, 2, 1), answers_of(2, 3, 0))[-2:], [[1], [1, 0]])

    def test_atoms_inside_other_concepts(self):
        self.assertEqual(last(keep(6, 0, 6, 0, 6, 0, 6, 0, 2, 0)), [0])
        self.assertEqual(last(keep(6, 0, 6, 0, 6, 0, 6, 0, 6, 0, 2, 0)), [-7])
        self.assertEqual(last(keep(6, 0, 6, 0, 6, 0, 6, 0, 6, 0, 0)), [0])
        self.assertEqual(last(keep(7, 0, 6, 1, 7, 0, 6, 0, 6, 0, 6, 1, 1)), [-7])
        self.assertEqual(last(keep(5, 6, 0, 5, 4, 3, 2, 0, 2, 1, 5, 3, 2, 2, 2, 3)), [0])
        self.assertEqual(last(keep(5, 6, 0, 5, 4, 3, 2, 0, 2, 1, 5, 6, 1, 3, 2, 2, 2, 3)), [-7])

    def test_five_and_six_atoms_over_all_lists(self):
        five = [line(2, 0, 2, 1), guess(1, 2, 2, 0), keep(2, 3)]
        for fifth in ((6, 0, 2, 0), (7, 1, 2, 3)):
            self.assertEqual(last(*five, line(*fifth, 0)), [1])
            self.assertEqual(last(*five, guess(1, *fifth, *fifth)), [1])
            self.assertEqual(last(*five, keep(*fifth)), [1])
            self.assertEqual(last(*five, answers_of(*fifth, *fifth)), [1, 0])
        for sixth in ((6, 0, 6, 0, 2, 0), (3, 6, 0, 0, 6, 1, 0), (7, 1, 6, 0, 2, 3)):
            self.assertEqual(last(*five, line(*sixth, 0)), [-7])
            self.assertEqual(last(*five, guess(1, *sixth, *sixth)), [-7])
            self.assertEqual(last(*five, keep(*sixth)), [-7])
            self.assertEqual(last(*five, answers_of(*sixth, 0)), [-7])
            self.assertEqual(last(*five, answers_of(0, *sixth)), [-7])

    def test_the_two_asked_concepts_count_together(self):
        three = [line(2, 0, 2, 1), guess(1, 2, 2, 0)]
        self.assertEqual(last(*three, answers_of(6, 0, 0, 6, 1, 0)), [0])
        self.assertEqual(last(*three, answers_of(3, 6, 0, 0, 2, 3, 6, 1, 0)), [-7])

    def test_asked_atoms_are_not_kept(self):
        three = [line(2, 0, 2, 1), guess(1, 2, 2, 0)]
        asked = [answers_of(6, 0, 0, 6, 1, 0), answers_of(7, 0, 0, 7, 1, 0), answers_of(2, 3, 6, 0, 2, 3)]
        self.assertEqual(run(*three, *asked, keep(2, 3), line(6, 0, 2, 0, 0))[-2:], [[0], [1]])

    def test_begins_gives_the_atoms_back(self):
        five = keep(3, 4, 2, 0, 2, 1, 4, 2, 2, 3, 2, 3, 6, 0, 2, 0)
        self.assertEqual(run(five, keep(6, 1, 0), begins(), keep(6, 1, 0)), [[0], [-7], [0], [0]])


def short_lists(numbers, longest):
    """All lists of these numbers up to this length."""
    lists = [[]]
    for start in lists:
        if len(start) < longest:
            lists.extend([[*start, number] for number in numbers])
    return lists


if __name__ == "__main__":
    unittest.main()
