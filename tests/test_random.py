"""What the document promises of every list of calls, on many of them."""

import random
import unittest

from helper import (
    Expectation, all_sets, answers_of, begins, check, cheapest, greatest, guess, keep, line, run, sets_of, take)


def concept(source, depth):
    head = source.choice((0, 1, 2, 2, 2, 2, 2, 3, 4, 5, 6, 7)) if depth else source.choice((0, 2, 2, 2))
    if head in (0, 1):
        return [head]
    if head == 2:
        return [2, source.randrange(source.choice((2, 3, 4)))]
    if head in (3, 4):
        return [head, *concept(source, depth - 1), *concept(source, depth - 1)]
    if head == 5:
        return [5, *concept(source, depth - 1)]
    return [head, source.choice((0, 0, 1)), *concept(source, depth - 1)]


def pair(source):
    numbers = concept(source, 2) + concept(source, 2)
    if source.randrange(25) == 0:
        numbers[source.randrange(len(numbers))] = source.randrange(9)
    return numbers


def chosen_numbers(source):
    """Numbers of hypotheses, most often strictly ascending."""
    numbers = [number for number in range(4) if source.randrange(4) == 0]
    if source.randrange(8) == 0:
        numbers.insert(source.randrange(len(numbers) + 1), source.choice((0, 1, 3, 4, 4294967295)))
    return numbers


def any_call(source):
    chance = source.randrange(60)
    if chance == 0:
        return begins()
    if chance < 12:
        return line(*pair(source))
    if chance < 26:
        return guess(source.choice((1, 5, 1000, 1, 5, 1000, 0, 1001)), *pair(source))
    if chance < 32:
        return keep(*concept(source, 2), *([0] if source.randrange(8) == 0 else []))
    if chance < 38:
        return answers_of(*pair(source))
    if chance < 44:
        return cheapest(*pair(source))
    if chance < 52:
        return check(chosen_numbers(source), *pair(source))
    if chance < 55:
        return greatest()
    return take(source.choice((0, 0, 1, 2, 3, 4294967295)))


def any_calls(seed):
    """Calls of all sorts, in any order, with many errors among them."""
    source = random.Random(seed)
    calls = [any_call(source) for _ in range(source.randrange(1, 60))]
    questions = [place for place, call in enumerate(calls) if call[0] in (4, 5, 7)]
    checks = [place for place, call in enumerate(calls) if call[0] == 6]
    return [call for place, call in enumerate(calls) if place not in questions[5:] + checks[10:]]


def pooled(source, pool, depth):
    """A concept over the atoms of the pool."""
    head = source.choice((2, 2, 2, 2, 3, 4, 5, 5)) if depth else 2
    if head == 2:
        return source.choice((*pool, *pool, *pool, *pool, [1]))
    parts = [pooled(source, pool, depth - 1) for _ in range(1 if head == 5 else 2)]
    return [head, *[number for part in parts for number in part]]


def atom_pool(source):
    """At most five atoms, with all that occur in them."""
    pool = [[2, 0], [2, 1], *[[2, 2]][:source.randrange(2)]]
    while len(pool) < 5:
        pool.append([source.choice((6, 7)), source.choice((0, 0, 1)), *pooled(source, pool, 1)])
    return pool


def dense_case(seed):
    """Few axioms, many hypotheses, protected concepts and a question, with parts that are shared by all of them."""
    source = random.Random(seed)
    pool = atom_pool(source)
    parts = [*pool[:2], *[pooled(source, pool, source.choice((0, 0, 1, 1))) for _ in range(2)]]

    def two(negations):
        first, second = source.sample(parts, 2)
        return first + ([5] if source.randrange(8) < negations else []) + second

    axioms = [line(*two(2)) for _ in range(source.choice((0, 0, 1, 2)))]
    count = source.choice((2, 3, 4, 4, 4))
    offered = [guess(source.choice((1, 2, 3, 999, 1000)), *two(2)) for _ in range(count)]
    kept = [keep(3, *two(3)) for _ in range(source.choice((0, 0, 1, 1, 2)))]
    return axioms, offered, kept, two(1)


def judged(stated, count, question):
    """The result of check for each set of hypotheses, in the order of lists of sets."""
    sets = all_sets(count)
    checks = [check(chosen, *question) for chosen in sets]
    results = run(*stated, *checks[:10])[len(stated):] + run(*stated, *checks[10:])[len(stated):]
    return list(zip(sets, results))


class PlainWords(unittest.TestCase):
    def assert_by_the_plain_words(self, calls, seed):
        expectation = Expectation()
        results = run(*calls)
        self.assertEqual(results, [expectation.apply(call) for call in calls], seed)
        return results

    def test_any_calls(self):
        seen = {}
        for seed in range(500):
            calls = any_calls(seed)
            for call, result in zip(calls, self.assert_by_the_plain_words(calls, seed)):
                key = (call[0], min(result[0], 0))
                seen[key] = seen.get(key, 0) + 1
        expected = {(call, 0) for call in range(9)} | {(call, -1) for call in range(1, 7)}
        expected |= {(call, -7) for call in (1, 2, 3, 4, 5, 6, 8)} | {(6, -2), (8, -2), (5, -6)}
        self.assertEqual(set(seen), expected)
        self.assertGreater(min(seen.values()), 10)

    def test_dense_calls(self):
        sizes, prices, greatest_sizes = [], [], []
        for seed in range(300):
            axioms, offered, kept, question = dense_case(seed)
            asked = [answers_of(*question), cheapest(*question), greatest()]
            chosen = [number for number in range(len(offered)) if seed >> number & 1]
            calls = [*axioms, *offered, *asked[:2], *kept, *asked, check(chosen, *question)]
            results = self.assert_by_the_plain_words(calls, seed)
            sizes.extend([len(found) for found in sets_of(results[-4])])
            prices.append(results[-3][0])
            greatest_sizes.append(len(sets_of(results[-2])))
        for size, least in enumerate((30, 50, 5)):
            self.assertGreater(sizes.count(size), least)
        self.assertGreater(len(set(prices)), 6)
        for count in (0, 1, 2):
            self.assertGreater(greatest_sizes.count(count), 5)

    def test_each_set_by_check(self):
        seen = []
        for seed in range(300, 400):
            axioms, offered, kept, question = dense_case(seed)
            expectation = Expectation()
            stated = [*axioms, *offered, *kept]
            for call in stated:
                expectation.apply(call)
            for chosen, result in judged(stated, len(offered), question):
                self.assertEqual(result, expectation.apply(check(chosen, *question)), (seed, chosen))
                seen.append(tuple(result[:2]))
        for found in ((0, 0), (0, 1), (1, 0), (1, 1)):
            self.assertGreater(seen.count(found), 20)


class Requirements(unittest.TestCase):
    """The points 1 to 5, 7 and 8, told by the program's own answers."""

    def test_explanations_are_the_minimal_sufficient_sets(self):
        for seed in range(1000, 1300):
            axioms, offered, kept, question = dense_case(seed)
            stated = [*axioms, *offered, *kept]
            sufficient = [chosen for chosen, result in judged(stated, len(offered), question) if result[:2] == [1, 1]]
            minimal = [one for one in sufficient if not any(set(other) < set(one) for other in sufficient)]
            found = sets_of(run(*stated, answers_of(*question))[-1])
            self.assertEqual(found, minimal, seed)
            self.assertEqual(found == [[]], [] in sufficient, seed)

    def test_cheapest_is_the_lowest_price_of_a_sufficient_set(self):
        found = 0
        for seed in range(1300, 1700):
            axioms, offered, kept, question = dense_case(seed)
            stated = [*axioms, *offered, *kept]
            results = judged(stated, len(offered), question)
            prices = [result[2] for chosen, result in results if result[:2] == [1, 1]]
            explanations, lowest = run(*stated, answers_of(*question), cheapest(*question))[-2:]
            if prices:
                self.assertEqual(lowest[0], min(prices), seed)
                priced = [chosen for chosen, result in results if result[2] == lowest[0]]
                self.assertEqual(lowest[1:], [chosen for chosen in sets_of(explanations) if chosen in priced][0], seed)
                found += lowest[0] > 0
            else:
                self.assertEqual(lowest, [-6], seed)
                self.assertEqual(explanations, [0], seed)
        self.assertGreater(found, 40)

    def test_compatible_is_what_is_within_a_greatest_set(self):
        counts = []
        for seed in range(1700, 2100):
            axioms, offered, kept, question = dense_case(seed)
            stated = [*axioms, *offered, *kept]
            results = judged(stated, len(offered), question)
            compatible = [chosen for chosen, result in results if result[1] == 1]
            found = sets_of(run(*stated, greatest())[-1])
            counts.append(len(found))
            within = [one for one in all_sets(len(offered)) if any(set(one) <= set(other) for other in found)]
            self.assertEqual(within, compatible, seed)
            self.assertFalse([one for one in found if any(set(one) < set(other) for other in found)], seed)
            self.assertEqual(found, sorted(found, key=lambda chosen: (len(chosen), chosen)), seed)
        self.assertGreater(counts.count(0), 10)
        self.assertGreater(counts.count(2), 10)

    def test_a_single_explanation_made_an_axiom(self):
        taken = 0
        for seed in range(2100, 2600):
            axioms, offered, kept, question = dense_case(seed)
            stated = [*axioms, *offered, *kept]
            for chosen in sets_of(run(*stated, answers_of(*question))[-1]):
                if len(chosen) == 1:
                    results = run(*stated, take(chosen[0]), answers_of(*question), cheapest(*question))
                    self.assertEqual(results[-3:], [[len(offered) - 1], [1, 0], [0]], seed)
                    taken += 1
        self.assertGreater(taken, 80)

    def test_an_additional_hypothesis_removes_no_explanation(self):
        compared = 0
        for seed in range(2600, 3400):
            axioms, offered, kept, question = dense_case(seed)
            asked = answers_of(*question)
            results = run(*axioms, *kept, *offered[:-1], asked, offered[-1], asked)
            found = sets_of(results[-1])
            for chosen in sets_of(results[-3]):
                self.assertIn(chosen, found, seed)
                compared += len(chosen) > 0
        self.assertGreater(compared, 60)

    def test_calls_with_errors_change_nothing(self):
        refused = {}
        for seed in range(4000, 4300):
            calls = any_calls(seed)
            results = run(*calls)
            for call, result in zip(calls, results):
                refused[call[0]] = refused.get(call[0], 0) + (result[0] < 0)
            kept = [place for place, result in enumerate(results) if result[0] >= 0]
            if kept:
                self.assertEqual(run(*[calls[place] for place in kept]), [results[place] for place in kept], seed)
        for number in (1, 2, 3, 4, 5, 6, 8):
            self.assertGreater(refused[number], 50)

    def test_questions_change_nothing(self):
        for seed in range(4300, 4500):
            calls = any_calls(seed)
            results = run(*calls)
            others = [place for place, call in enumerate(calls) if call[0] not in (4, 5, 6, 7)]
            if others:
                self.assertEqual(run(*[calls[place] for place in others]), [results[place] for place in others], seed)


if __name__ == "__main__":
    unittest.main()
