"""What follows from axioms and chosen hypotheses, which sets of hypotheses explain it, and which are compatible."""

from missingaxioms.concepts import atoms_in
from missingaxioms.profiles import Profiles


def concepts_of(axioms):
    """The concepts of which the axioms consist."""
    concepts = []
    for axiom in axioms:
        concepts.extend(axiom)
    return concepts


def ordered_sets(count):
    """All sets of the numbers below count: by size, then by the first number in which they differ."""
    sets = [[]]
    for number in range(count):
        sets = sets + [smaller + [number] for smaller in sets]
    return sorted(sets, key=lambda numbers: (len(numbers), numbers))


def is_within(inner, outer):
    """Whether each number of the first set is in the second one."""
    return all([number in outer for number in inner])


class Theory:
    """Axioms, hypotheses (axioms without a price) and protected concepts.

    Besides these, only the asked concepts may be asked about: they are what the profiles are made for.
    """

    def __init__(self, axioms, hypotheses, protected, asked):
        self.axioms = list(axioms)
        self.hypotheses = list(hypotheses)
        self.protected = list(protected)
        stated = concepts_of(self.axioms) + concepts_of(self.hypotheses)
        self.profiles = Profiles(atoms_in(stated + self.protected + asked))

    def possible_with(self, chosen):
        """The set of profiles that are possible with the axioms and the chosen hypotheses."""
        return self.profiles.possible(self.axioms + [self.hypotheses[number] for number in chosen])

    def all_satisfiable(self, possible):
        """Whether each protected concept is had by one of the possible profiles."""
        return all([self.profiles.extent(concept) & possible != 0 for concept in self.protected])

    def subsumes(self, possible, first, second):
        """Whether each possible profile with the first concept has the second one."""
        outside = self.profiles.full ^ self.profiles.extent(second)
        return self.profiles.extent(first) & outside & possible == 0

    def is_sufficient(self, chosen, first, second):
        """Whether the chosen hypotheses are compatible and the subsumption holds with them."""
        possible = self.possible_with(chosen)
        return self.all_satisfiable(possible) and self.subsumes(possible, first, second)

    def explanations(self, first, second):
        """The minimal sufficient sets of hypotheses, in order."""
        found = []
        # Smaller sets come first: what contains a sufficient set contains one of those found.
        for chosen in ordered_sets(len(self.hypotheses)):
            minimal = not any([is_within(smaller, chosen) for smaller in found])
            if minimal and self.is_sufficient(chosen, first, second):
                found.append(chosen)
        return found

    def greatest_sets(self):
        """The compatible sets of hypotheses that are not contained in any other compatible set, in order."""
        found = []
        # Larger sets come first: a compatible set that is not one of the greatest is within one of those found.
        for chosen in reversed(ordered_sets(len(self.hypotheses))):
            covered = any([is_within(chosen, larger) for larger in found])
            if not covered and self.all_satisfiable(self.possible_with(chosen)):
                found.append(chosen)
        return list(reversed(found))
