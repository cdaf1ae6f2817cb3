"""Profiles: which atoms an individual of a model can have together."""

from missingaxioms.concepts import concept_end, concept_starts


class Profiles:
    """The profiles over a list of atoms.

    A profile is a whole number: bit k tells whether an individual has atom k.
    A set of profiles is a whole number as well: bit p tells whether profile p is in it.
    The atoms have to contain all atoms inside of them, too.
    """

    def __init__(self, atoms):
        self.atoms = list(atoms)
        self.total = 1 << len(self.atoms)
        self.full = (1 << self.total) - 1
        relations = self.relation_atoms()
        self.demands = [self.demands_of(profile, relations) for profile in range(self.total)]

    def atom_extent(self, atom):
        """The set of profiles that have the atom."""
        bit = self.atoms.index(atom)
        return sum([1 << profile for profile in range(self.total) if profile >> bit & 1])

    def extent(self, concept):
        """The set of profiles that have the concept."""
        extents = []
        # From the back, so that the inner concepts are ready before the outer one.
        for start in reversed(concept_starts(concept)):
            head = concept[start]
            if head == 0:
                extents.append(self.full)
            elif head == 1:
                extents.append(0)
            elif head == 3:
                extents.append(extents.pop() & extents.pop())
            elif head == 4:
                extents.append(extents.pop() | extents.pop())
            elif head == 5:
                extents.append(self.full ^ extents.pop())
            else:
                if head != 2:
                    extents.pop()
                extents.append(self.atom_extent(concept[start:concept_end(concept, start)]))
        return extents[0]

    def relation_atoms(self):
        """For each atom with a role: its bit, whether it begins with 6, its role, and the profiles it speaks of.

        7 is read as "not 6 not": such an atom speaks of the profiles without its inner concept.
        """
        relations = []
        for bit, atom in enumerate(self.atoms):
            if atom[0] == 6:
                relations.append((bit, True, atom[1], self.extent(atom[2:])))
            elif atom[0] == 7:
                relations.append((bit, False, atom[1], self.full ^ self.extent(atom[2:])))
        return relations

    def demands_of(self, profile, relations):
        """Sets of profiles: an individual with this profile is related to one of each of these sets."""
        allowed = [self.full, self.full]
        wanted = []
        for bit, positive, role, extent in relations:
            if (profile >> bit & 1 == 1) == positive:
                wanted.append((role, extent))
            else:
                allowed[role] &= self.full ^ extent
        return [allowed[role] & extent for role, extent in wanted]

    def demands_met(self, profile, alive):
        """Whether an individual with this profile finds all it has to be related to in alive."""
        return all([demand & alive != 0 for demand in self.demands[profile]])

    def possible(self, axioms):
        """The set of profiles that individuals have in models in which the axioms hold."""
        alive = self.full
        for first, second in axioms:
            alive &= (self.full ^ self.extent(first)) | self.extent(second)
        # A profile that goes can leave another one without what it has to be
        # related to, so this goes on until nothing is left to take away.
        before = 0
        while alive != before:
            before = alive
            alive = sum([
                1 << profile for profile in range(self.total)
                if before >> profile & 1 and self.demands_met(profile, before)
            ])
        return alive
