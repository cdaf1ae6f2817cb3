"""What follows from concepts with 6 and 7, step by step along the relations."""

import unittest

from helper import answers_of, guess, keep, last, line

A, B, C, D = (2, 0), (2, 1), (2, 2), (2, 3)
ALL, NONE = (0,), (1,)


def both(first, second):
    return (3, *first, *second)


def either(first, second):
    return (4, *first, *second)


def no(concept):
    return (5, *concept)


def some(role, concept):
    return (6, role, *concept)


def only(role, concept):
    return (7, role, *concept)


class Relations(unittest.TestCase):
    def assert_holds(self, axioms, first, second):
        calls = [line(*left, *right) for left, right in axioms]
        self.assertEqual(last(*calls, answers_of(*first, *second)), [1, 0])

    def assert_fails(self, axioms, first, second):
        calls = [line(*left, *right) for left, right in axioms]
        self.assertEqual(last(*calls, answers_of(*first, *second)), [0])

    def test_without_axioms(self):
        self.assert_holds([], A, ALL)
        self.assert_holds([], NONE, A)
        self.assert_fails([], A, NONE)
        self.assert_fails([], ALL, A)
        self.assert_fails([], A, B)
        self.assert_holds([], both(A, B), B)
        self.assert_fails([], either(A, B), B)
        self.assert_holds([], B, either(A, B))
        self.assert_holds([], ALL, either(A, no(A)))
        self.assert_holds([], no(either(A, B)), both(no(A), no(B)))
        self.assert_holds([], no(both(A, B)), either(no(A), no(B)))
        self.assert_fails([], no(both(A, B)), no(A))

    def test_6_and_7_are_each_the_negation_of_the_other(self):
        for role in (0, 1):
            self.assert_holds([], no(some(role, A)), only(role, no(A)))
            self.assert_holds([], only(role, no(A)), no(some(role, A)))
            self.assert_holds([], no(only(role, A)), some(role, no(A)))
            self.assert_holds([], some(role, no(A)), no(only(role, A)))
            self.assert_fails([], only(role, A), some(role, A))
            self.assert_fails([], some(role, A), only(role, A))

    def test_7_holds_where_nothing_is_related(self):
        self.assert_holds([], only(0, NONE), only(0, A))
        self.assert_holds([], no(some(0, ALL)), only(0, A))
        self.assert_fails([], only(0, A), only(0, NONE))
        self.assert_fails([], ALL, some(0, ALL))
        self.assert_holds([], ALL, only(0, ALL))
        self.assert_holds([], some(0, NONE), NONE)
        self.assert_fails([], only(0, NONE), NONE)

    def test_inner_concepts(self):
        self.assert_holds([], some(0, both(A, B)), both(some(0, A), some(0, B)))
        self.assert_fails([], both(some(0, A), some(0, B)), some(0, both(A, B)))
        self.assert_holds([], both(only(0, A), only(0, B)), only(0, both(A, B)))
        self.assert_holds([], either(only(0, A), only(0, B)), only(0, either(A, B)))
        self.assert_fails([], only(0, either(A, B)), either(only(0, A), only(0, B)))
        self.assert_holds([], both(some(0, A), only(0, B)), some(0, both(A, B)))

    def test_roles_are_kept_apart(self):
        self.assert_fails([], both(some(0, A), only(1, no(A))), NONE)
        self.assert_holds([], both(some(1, A), only(1, no(A))), NONE)
        self.assert_fails([], some(0, A), some(1, A))
        self.assert_fails([], both(some(0, A), only(1, B)), some(0, both(A, B)))
        self.assert_fails([(ALL, some(1, A))], ALL, some(0, ALL))

    def test_a_relation_has_a_direction(self):
        self.assert_fails([], some(0, only(0, A)), A)
        self.assert_fails([(A, some(0, B))], B, some(0, A))

    def test_impossible_step_by_step(self):
        chain = [(A, some(0, B)), (B, some(0, C)), (C, NONE)]
        self.assert_holds(chain, A, NONE)
        self.assert_holds(chain, some(0, C), B)
        self.assert_holds(chain, ALL, no(some(0, C)))
        self.assert_fails(chain[:2], A, NONE)
        self.assert_fails(chain[1:], A, NONE)
        self.assert_fails([chain[0], chain[2]], A, NONE)

    def test_impossible_over_three_steps(self):
        chain = [(A, some(0, no(B))), (no(B), some(1, no(A))), (no(A), some(0, NONE))]
        self.assert_holds(chain, A, NONE)
        self.assert_holds(chain, ALL, NONE)
        self.assert_holds(chain, ALL, B)
        nested = some(0, some(1, some(0, A)))
        self.assert_holds([(A, NONE)], nested, NONE)
        self.assert_fails([(A, NONE)], some(0, some(1, some(0, no(A)))), NONE)

    def test_everything_becomes_impossible(self):
        self.assert_holds([(ALL, some(0, A)), (A, only(0, no(A)))], ALL, NONE)
        self.assert_fails([(ALL, some(0, A)), (A, only(1, no(A)))], ALL, NONE)
        self.assert_fails([(ALL, some(0, A)), (B, only(0, no(A)))], ALL, NONE)
        self.assert_holds([(ALL, some(0, A)), (B, only(0, no(A)))], B, NONE)

    def test_an_endless_chain_is_possible(self):
        self.assert_fails([(A, some(0, A))], A, NONE)
        self.assert_fails([(A, some(0, B)), (B, some(0, A))], A, NONE)
        self.assert_fails([(ALL, some(0, some(1, ALL)))], ALL, NONE)
        self.assert_fails([(A, some(0, A)), (A, only(0, B))], A, B)
        self.assert_holds([(A, some(0, A)), (A, only(0, B))], A, some(0, both(A, B)))

    def test_7_hands_on_what_makes_impossible(self):
        stated = [(A, some(0, B)), (A, only(0, C)), (both(B, C), NONE)]
        self.assert_holds(stated, A, NONE)
        self.assert_fails([stated[0], (A, only(1, C)), stated[2]], A, NONE)
        self.assert_holds([(A, only(0, A)), (A, some(0, no(A)))], A, NONE)

    def test_hypotheses_that_cut_a_chain(self):
        stated = [line(*A, *some(0, B)), line(*B, *some(0, C))]
        offered = [guess(1, *C, *NONE), guess(1, *B, *NONE), guess(1, *some(0, C), *NONE), guess(1, *C, *B)]
        self.assertEqual(last(*stated, *offered, answers_of(*A, *NONE)), [3, 1, 0, 1, 1, 1, 2])
        self.assertEqual(last(*stated, offered[3], answers_of(*A, *NONE)), [0])
        two_steps = [line(*A, *some(0, B)), guess(1, *C, *NONE), guess(1, *B, *some(1, C))]
        self.assertEqual(last(*two_steps, answers_of(*A, *NONE)), [1, 2, 0, 1])

    def test_a_protected_concept_that_needs_a_chain(self):
        calls = [line(*A, *some(0, B)), guess(1, *B, *NONE), guess(1, *A, *C), keep(*A)]
        self.assertEqual(last(*calls, answers_of(*A, *C)), [1, 1, 1])
        self.assertEqual(last(*calls[:3], answers_of(*A, *C)), [2, 1, 0, 1, 1])

    def test_a_protected_concept_with_a_relation(self):
        calls = [guess(1, *A, *NONE), guess(1, *ALL, *only(0, no(A))), guess(1, *ALL, *only(1, no(A)))]
        self.assertEqual(last(*calls, answers_of(*A, *NONE)), [1, 1, 0])
        self.assertEqual(last(*calls, keep(*some(0, A)), answers_of(*A, *NONE)), [0])


if __name__ == "__main__":
    unittest.main()
