"""The operations on axioms, hypotheses and protected concepts.

Each operation gives back the list of the numbers of its result; an error is one
negative number alone, and then nothing has changed:
-1 if the numbers handed in are not as they have to be, -2 if there are no such
hypotheses, -6 if there is no explanation, -7 if there would be too much.
"""

from missingaxioms.concepts import atoms_in, split_concepts
from missingaxioms.theory import Theory, concepts_of

MOST_AXIOMS = 4
MOST_HYPOTHESES = 4
MOST_PROTECTED = 2
MOST_ATOMS = 5
MOST_PRICE = 1000


def sets_result(sets):
    """The number of sets, then for each set its size and its numbers."""
    result = [len(sets)]
    for numbers in sets:
        result.append(len(numbers))
        result.extend(numbers)
    return result


class Service:
    """The axioms, the hypotheses with their prices, and the protected concepts of one request."""

    def __init__(self):
        self.axioms = []
        self.hypotheses = []
        self.prices = []
        self.protected = []

    def too_many_atoms(self, concepts):
        """Whether there would be too many atoms with these concepts besides those that are there."""
        stated = concepts_of(self.axioms) + concepts_of(self.hypotheses)
        return len(atoms_in(stated + self.protected + concepts)) > MOST_ATOMS

    def begins(self):
        """Removes everything."""
        self.axioms = []
        self.hypotheses = []
        self.prices = []
        self.protected = []
        return [0]

    def line(self, numbers):
        """Adds an axiom."""
        concepts = split_concepts(numbers)
        if len(concepts) != 2:
            return [-1]
        if len(self.axioms) >= MOST_AXIOMS or self.too_many_atoms(concepts):
            return [-7]
        self.axioms.append((concepts[0], concepts[1]))
        return [len(self.axioms) - 1]

    def guess(self, price, numbers):
        """Adds a hypothesis."""
        concepts = split_concepts(numbers)
        if len(concepts) != 2 or price < 1 or price > MOST_PRICE:
            return [-1]
        if len(self.hypotheses) >= MOST_HYPOTHESES or self.too_many_atoms(concepts):
            return [-7]
        self.hypotheses.append((concepts[0], concepts[1]))
        self.prices.append(price)
        return [len(self.hypotheses) - 1]

    def keep(self, numbers):
        """Adds a protected concept."""
        concepts = split_concepts(numbers)
        if len(concepts) != 1:
            return [-1]
        if len(self.protected) >= MOST_PROTECTED or self.too_many_atoms(concepts):
            return [-7]
        self.protected.append(concepts[0])
        return [len(self.protected) - 1]

    def question_error(self, concepts):
        """The error if these concepts can't be asked about, otherwise 0."""
        if len(concepts) != 2:
            return -1
        if self.too_many_atoms(concepts):
            return -7
        return 0

    def theory_with(self, concepts):
        """What follows from all that is there; the concepts may be asked about."""
        return Theory(self.axioms, self.hypotheses, self.protected, concepts)

    def explanations_for(self, concepts):
        """The explanations for the subsumption of the first concept by the second one."""
        return self.theory_with(concepts).explanations(concepts[0], concepts[1])

    def answers_of(self, numbers):
        """The explanations, each with its size."""
        concepts = split_concepts(numbers)
        error = self.question_error(concepts)
        if error < 0:
            return [error]
        return sets_result(self.explanations_for(concepts))

    def price_of(self, chosen):
        """The price of a set of hypotheses."""
        return sum([self.prices[number] for number in chosen])

    def cheapest(self, numbers):
        """The lowest price of an explanation, and the first explanation with this price."""
        concepts = split_concepts(numbers)
        error = self.question_error(concepts)
        if error < 0:
            return [error]
        explanations = self.explanations_for(concepts)
        if len(explanations) == 0:
            return [-6]
        # Of several with the lowest price, min gives the first one.
        best = min(explanations, key=self.price_of)
        return [self.price_of(best)] + best

    def are_hypotheses(self, chosen):
        """Whether these are numbers of hypotheses, strictly ascending."""
        least = 0
        for number in chosen:
            if number < least or number >= len(self.hypotheses):
                return False
            least = number + 1
        return True

    def check(self, chosen, numbers):
        """Whether the subsumption holds with the chosen hypotheses, whether they are compatible, and their price."""
        concepts = split_concepts(numbers)
        if len(concepts) != 2:
            return [-1]
        if not self.are_hypotheses(chosen):
            return [-2]
        if self.too_many_atoms(concepts):
            return [-7]
        theory = self.theory_with(concepts)
        possible = theory.possible_with(chosen)
        subsumed = theory.subsumes(possible, concepts[0], concepts[1])
        compatible = theory.all_satisfiable(possible)
        return [1 if subsumed else 0, 1 if compatible else 0, self.price_of(chosen)]

    def greatest(self):
        """The compatible sets of hypotheses that are not contained in any other one, each with its size."""
        return sets_result(self.theory_with([]).greatest_sets())

    def take(self, number):
        """Makes a hypothesis the last axiom."""
        if number >= len(self.hypotheses):
            return [-2]
        if len(self.axioms) >= MOST_AXIOMS:
            return [-7]
        self.axioms.append(self.hypotheses.pop(number))
        self.prices.pop(number)
        return [len(self.hypotheses)]
