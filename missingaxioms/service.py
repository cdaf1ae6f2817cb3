"""The operations on axioms, hypotheses and protected concepts.

Each operation gives back the list of the numbers of its result; an error is one
negative number alone, and then nothing has changed:
-1 if the numbers handed in are not as they have to be, -7 if there would be too much.
"""

from missingaxioms.concepts import atoms_in, split_concepts
from missingaxioms.theory import Theory, concepts_of

MOST_AXIOMS = 4
MOST_HYPOTHESES = 4
MOST_PROTECTED = 2
MOST_ATOMS = 5
MOST_PRICE = 1000


def sets_result(sets):
    """The number of sets, then for each set its size and its numbers."""
    result = [len(sets)]
    for numbers in sets:
        result.append(len(numbers))
        result.extend(numbers)
    return result


class Service:
    """The axioms, the hypotheses with their prices, and the protected concepts of one request."""

    def __init__(self):
        self.axioms = []
        self.hypotheses = []
        self.prices = []
        self.protected = []

    def too_many_atoms(self, concepts):
        """Whether there would be too many atoms with these concepts besides those that are there."""
        stated = concepts_of(self.axioms) + concepts_of(self.hypotheses)
        return len(atoms_in(stated + self.protected + concepts)) > MOST_ATOMS

    def begins(self):
        """Removes everything."""
        self.axioms = []
        self.hypotheses = []
        self.prices = []
        self.protected = []
        return [0]

    def line(self, numbers):
        """Adds an axiom."""
        concepts = split_concepts(numbers)
        if len(concepts) != 2:
            return [-1]
        if len(self.axioms) >= MOST_AXIOMS or self.too_many_atoms(concepts):
            return [-7]
        self.axioms.append((concepts[0], concepts[1]))
        return [len(self.axioms) - 1]

    def guess(self, price, numbers):
        """Adds a hypothesis."""
        concepts = split_concepts(numbers)
        if len(concepts) != 2 or price < 1 or price > MOST_PRICE:
            return [-1]
        if len(self.hypotheses) >= MOST_HYPOTHESES or self.too_many_atoms(concepts):
            return [-7]
        self.hypotheses.append((concepts[0], concepts[1]))
        self.prices.append(price)
        return [len(self.hypotheses) - 1]

    def keep(self, numbers):
        """Adds a protected concept."""
        concepts = split_concepts(numbers)
        if len(concepts) != 1:
            return [-1]
        if len(self.protected) >= MOST_PROTECTED or self.too_many_atoms(concepts):
            return [-7]
        self.protected.append(concepts[0])
        return [len(self.protected) - 1]

    def answers_of(self, numbers):
        """The explanations for the subsumption of the first concept by the second one."""
        concepts = split_concepts(numbers)
        if len(concepts) != 2:
            return [-1]
        if self.too_many_atoms(concepts):
            return [-7]
        theory = Theory(self.axioms, self.hypotheses, self.protected, concepts)
        return sets_result(theory.explanations(concepts[0], concepts[1]))
