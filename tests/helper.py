"""Writes lists of calls, and works their results out anew, in another way than the program does."""

import itertools

from missingaxioms.guesses import answers

INNER_CONCEPTS = {0: 0, 1: 0, 2: 0, 3: 2, 4: 2, 5: 1, 6: 1, 7: 1}
EVERYTHING = (0,)
NOTHING = (1,)


def begins():
    return [0]


def line(*concepts):
    return [1, len(concepts), *concepts]


def guess(price, *concepts):
    return [2, price, len(concepts), *concepts]


def keep(*concept):
    return [3, len(concept), *concept]


def answers_of(*concepts):
    return [4, len(concepts), *concepts]


def run(*calls):
    """The result of each call."""
    given = answers(list(itertools.chain(*calls)))
    results = []
    while given:
        size = given[0]
        results.append(given[1:1 + size])
        assert len(results[-1]) == size
        given = given[1 + size:]
    assert len(results) == len(calls)
    return results


def last(*calls):
    """The result of the last call."""
    return run(*calls)[-1]


def parse(numbers):
    """The nested concepts of which the numbers consist, or None."""
    def one(place):
        head = numbers[place]
        concept = [head]
        place += 1
        if head in (2, 6, 7):
            if numbers[place] >= (4 if head == 2 else 2):
                raise LookupError
            concept.append(numbers[place])
            place += 1
        for _ in range(INNER_CONCEPTS[head]):
            inner, place = one(place)
            concept.append(inner)
        return tuple(concept), place

    concepts, place = [], 0
    while place < len(numbers):
        try:
            concept, place = one(place)
        except LookupError:
            return None
        concepts.append(concept)
    return concepts


def atoms(concept):
    """The atoms of a nested concept, as a set."""
    found = {concept} if concept[0] in (2, 6, 7) else set()
    for part in concept[1:]:
        if isinstance(part, tuple):
            found |= atoms(part)
    return found


def without(concept):
    """The negation of a nested concept, with 5 in front of names alone."""
    head = concept[0]
    if head in (0, 1):
        return (1 - head,)
    if head == 2:
        return (5, concept)
    if head in (3, 4):
        return (7 - head, without(concept[1]), without(concept[2]))
    if head == 5:
        return inward(concept[1])
    return (13 - head, concept[1], without(concept[2]))


def inward(concept):
    """The same concept, with 5 in front of names alone."""
    head = concept[0]
    if head in (0, 1, 2):
        return concept
    if head in (3, 4):
        return (head, inward(concept[1]), inward(concept[2]))
    if head == 5:
        return without(concept[1])
    return (head, concept[1], inward(concept[2]))


def can_stand(waiting, label, everywhere, ancestors, failed):
    """Whether a tree of elements can be built below one that has the label and what is waiting."""
    waiting, label = list(waiting), set(label)
    while waiting:
        concept = waiting.pop()
        if concept == NOTHING or (5, concept) in label or (concept[0] == 5 and concept[1] in label):
            return False
        label.add(concept)
        if concept[0] == 3:
            waiting += concept[1:]
    for concept in sorted(label, key=repr):
        if concept[0] == 4 and not label.intersection(concept[1:]):
            return any(can_stand([part], label, everywhere, ancestors, failed) for part in concept[1:])
    if any(label <= ancestor for ancestor in ancestors):
        return True
    for concept in sorted(label, key=repr):
        if concept[0] == 6:
            held = [other[2] for other in label if other[:2] == (7, concept[1])]
            below = frozenset([concept[2], *held, *everywhere])
            # What fails below ancestors fails everywhere: they only spare building.
            if below not in failed and not can_stand(below, (), everywhere, [*ancestors, label], failed):
                failed.add(below)
            if below in failed:
                return False
    return True


def satisfiable(concept, axioms):
    """Whether some element has the concept in some model of the axioms."""
    everywhere = [(4, without(first), inward(second)) for first, second in axioms]
    return can_stand([inward(concept), *everywhere], (), everywhere, [], set())


def sufficient(axioms, protected, first, second):
    if not all(satisfiable(concept, axioms) for concept in protected):
        return False
    return not satisfiable((3, first, (5, second)), axioms)


def explanations(axioms, hypotheses, protected, first, second):
    """All sufficient sets with no sufficient proper subset, by size, then by first difference."""
    count = len(hypotheses)
    found = []
    for size in range(count + 1):
        for chosen in itertools.combinations(range(count), size):
            known = axioms + [hypotheses[number] for number in chosen]
            if sufficient(known, protected, first, second):
                found.append(chosen)
    return [list(chosen) for chosen in found if not any(set(other) < set(chosen) for other in found)]


def flat(sets):
    """A list of sets as a result has it."""
    result = [len(sets)]
    for numbers in sets:
        result += [len(numbers), *numbers]
    return result


class Expectation:
    """What the calls should give back, by the plain words of the document."""

    def __init__(self):
        self.lists = {1: [], 2: [], 3: []}

    def count_atoms(self, more):
        found = set()
        for concepts in [*self.lists[1], *self.lists[2], *self.lists[3], more]:
            for concept in concepts:
                found |= atoms(concept)
        return len(found)

    def apply(self, call):
        """The result of one call, written as a list of numbers."""
        number = call[0]
        if number == 0:
            self.lists = {1: [], 2: [], 3: []}
            return [0]
        concepts = parse(call[3:] if number == 2 else call[2:])
        if concepts is None or len(concepts) != (1 if number == 3 else 2):
            return [-1]
        if number == 2 and not 1 <= call[1] <= 1000:
            return [-1]
        if number != 4 and len(self.lists[number]) == {1: 4, 2: 4, 3: 2}[number]:
            return [-7]
        if self.count_atoms(concepts) > 5:
            return [-7]
        if number == 4:
            protected = [concepts[0] for concepts in self.lists[3]]
            return flat(explanations(self.lists[1], self.lists[2], protected, *concepts))
        self.lists[number].append(concepts)
        return [len(self.lists[number]) - 1]
