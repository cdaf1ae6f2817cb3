"""Writes lists of calls, and works their results out anew, in another way than the program does."""

import itertools

from missingaxioms.guesses import answers

INNER_CONCEPTS = {0: 0, 1: 0, 2: 0, 3: 2, 4: 2, 5: 1, 6: 1, 7: 1}
EVERYTHING = (0,)
NOTHING = (1,)


def begins():
    return [0]


def line(*concepts):
    return [1, len(concepts), *concepts]


def guess(price, *concepts):
    return [2, price, len(concepts), *concepts]


def keep(*concept):
    return [3, len(concept), *concept]


def answers_of(*concepts):
    return [4, len(concepts), *concepts]


def cheapest(*concepts):
    return [5, len(concepts), *concepts]


def check(guesses, *concepts):
    return [6, len(guesses), *guesses, len(concepts), *concepts]


def greatest():
    return [7]


def take(index):
    return [8, index]


def run(*calls):
    """The result of each call."""
    given = answers(list(itertools.chain(*calls)))
    results = []
    while given:
        size = given[0]
        results.append(given[1:1 + size])
        assert len(results[-1]) == size
        given = given[1 + size:]
    assert len(results) == len(calls)
    return results


def last(*calls):
    """The result of the last call."""
    return run(*calls)[-1]


def sets_of(result):
    """The sets in a result of answers_of or greatest."""
    assert result[0] >= 0
    sets, place = [], 1
    for _ in range(result[0]):
        sets.append(result[place + 1:place + 1 + result[place]])
        place += 1 + result[place]
    assert place == len(result)
    return sets


def all_sets(count):
    """All sets of the numbers below count, by size, then by first difference."""
    return [list(chosen) for size in range(count + 1) for chosen in itertools.combinations(range(count), size)]


def parse(numbers):
    """The nested concepts of which the numbers consist, or None."""
    def one(place):
        head = numbers[place]
        concept = [head]
        place += 1
        if head in (2, 6, 7):
            if numbers[place] >= (4 if head == 2 else 2):
                raise LookupError
            concept.append(numbers[place])
            place += 1
        for _ in range(INNER_CONCEPTS[head]):
            inner, place = one(place)
            concept.append(inner)
        return tuple(concept), place

    concepts, place = [], 0
    while place < len(numbers):
        try:
            concept, place = one(place)
        except LookupError:
            return None
        concepts.append(concept)
    return concepts


def atoms(concept):
    """The atoms of a nested concept, as a set."""
    found = {concept} if concept[0] in (2, 6, 7) else set()
    for part in concept[1:]:
        if isinstance(part, tuple):
            found |= atoms(part)
    return found


def without(concept):
    """The negation of a nested concept, with 5 in front of names alone."""
    head = concept[0]
    if head in (0, 1):
        return (1 - head,)
    if head == 2:
        return (5, concept)
    if head in (3, 4):
        return (7 - head, without(concept[1]), without(concept[2]))
    if head == 5:
        return inward(concept[1])
    return (13 - head, concept[1], without(concept[2]))


def inward(concept):
    """The same concept, with 5 in front of names alone."""
    head = concept[0]
    if head in (0, 1, 2):
        return concept
    if head in (3, 4):
        return (head, inward(concept[1]), inward(concept[2]))
    if head == 5:
        return without(concept[1])
    return (head, concept[1], inward(concept[2]))


def can_stand(waiting, label, everywhere, ancestors, failed):
    """Whether a tree of elements can be built below one that has the label and what is waiting."""
    waiting, label = list(waiting), set(label)
    while waiting:
        concept = waiting.pop()
        if concept == NOTHING or (5, concept) in label or (concept[0] == 5 and concept[1] in label):
            return False
        label.add(concept)
        if concept[0] == 3:
            waiting += concept[1:]
    for concept in sorted(label, key=repr):
        if concept[0] == 4 and not label.intersection(concept[1:]):
            return any(can_stand([part], label, everywhere, ancestors, failed) for part in concept[1:])
    if any(label <= ancestor for ancestor in ancestors):
        return True
    for concept in sorted(label, key=repr):
        if concept[0] == 6:
            held = [other[2] for other in label if other[:2] == (7, concept[1])]
            below = frozenset([concept[2], *held, *everywhere])
            # What fails below ancestors fails everywhere: they only spare building.
            if below not in failed and not can_stand(below, (), everywhere, [*ancestors, label], failed):
                failed.add(below)
            if below in failed:
                return False
    return True


def satisfiable(concept, axioms):
    """Whether some element has the concept in some model of the axioms."""
    everywhere = [(4, without(first), inward(second)) for first, second in axioms]
    return can_stand([inward(concept), *everywhere], (), everywhere, [], set())


def flat(sets):
    """A list of sets as a result has it."""
    result = [len(sets)]
    for numbers in sets:
        result += [len(numbers), *numbers]
    return result


class Expectation:
    """What the calls should give back, by the plain words of the document."""

    def __init__(self):
        self.axioms, self.hypotheses, self.prices, self.protected = [], [], [], []

    def count_atoms(self, more):
        found = set()
        for concept in itertools.chain(*self.axioms, *self.hypotheses, self.protected, more):
            found |= atoms(concept)
        return len(found)

    def sets(self):
        return all_sets(len(self.hypotheses))

    def known(self, chosen):
        return self.axioms + [self.hypotheses[number] for number in chosen]

    def price(self, chosen):
        return sum(self.prices[number] for number in chosen)

    def compatible(self, chosen):
        return all(satisfiable(concept, self.known(chosen)) for concept in self.protected)

    def subsumed(self, chosen, first, second):
        return not satisfiable((3, first, (5, second)), self.known(chosen))

    def sufficient_sets(self, first, second):
        compatible = [chosen for chosen in self.sets() if self.compatible(chosen)]
        return [chosen for chosen in compatible if self.subsumed(chosen, first, second)]

    def answers_of(self, first, second):
        found = self.sufficient_sets(first, second)
        return flat([chosen for chosen in found if not any(set(other) < set(chosen) for other in found)])

    def cheapest(self, first, second):
        # As each price is above 0, a sufficient set with the lowest price has no sufficient proper subset.
        found = sorted((self.price(chosen), len(chosen), chosen) for chosen in self.sufficient_sets(first, second))
        return [found[0][0], *found[0][2]] if found else [-6]

    def check(self, chosen, first, second):
        return [int(self.subsumed(chosen, first, second)), int(self.compatible(chosen)), self.price(chosen)]

    def greatest(self):
        found = [chosen for chosen in self.sets() if self.compatible(chosen)]
        return flat([chosen for chosen in found if not any(set(other) > set(chosen) for other in found)])

    def take(self, index):
        if index not in range(len(self.hypotheses)):
            return [-2]
        if len(self.axioms) == 4:
            return [-7]
        self.axioms = [*self.axioms, self.hypotheses[index]]
        self.hypotheses = self.hypotheses[:index] + self.hypotheses[index + 1:]
        self.prices = self.prices[:index] + self.prices[index + 1:]
        return [len(self.hypotheses)]

    def add(self, number, call, concepts):
        """The result of line, guess or keep, if the numbers handed in are as they have to be."""
        place, most = {1: (self.axioms, 4), 2: (self.hypotheses, 4), 3: (self.protected, 2)}[number]
        if len(place) == most or self.count_atoms(concepts) > 5:
            return [-7]
        place.append(concepts[0] if number == 3 else tuple(concepts))
        if number == 2:
            self.prices.append(call[1])
        return [len(place) - 1]

    def apply(self, call):
        """The result of one call, written as a list of numbers."""
        number = call[0]
        if number == 0:
            self.__init__()
            return [0]
        if number == 7:
            return self.greatest()
        if number == 8:
            return self.take(call[1])
        chosen = call[2:2 + call[1]] if number == 6 else []
        concepts = parse(call[(3 if number in (2, 6) else 2) + len(chosen):])
        if concepts is None or len(concepts) != (1 if number == 3 else 2):
            return [-1]
        if number == 2 and not 1 <= call[1] <= 1000:
            return [-1]
        if chosen not in self.sets():
            return [-2]
        if number < 4:
            return self.add(number, call, concepts)
        if self.count_atoms(concepts) > 5:
            return [-7]
        if number == 6:
            return self.check(chosen, *concepts)
        return (self.answers_of if number == 4 else self.cheapest)(*concepts)
