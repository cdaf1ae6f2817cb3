"""Concepts in prefix notation: where they end, what they begin with, which atoms occur in them."""

# By the first number of a concept: how many concepts follow, and below which
# limit the number behind it (a name or a role) has to be; 0 where there is none.
INNER_CONCEPTS = (0, 0, 0, 2, 2, 1, 1, 1)
ARGUMENT_LIMITS = (0, 0, 4, 0, 0, 0, 2, 2)


def head_width(numbers, place):
    """How many numbers stand at place ahead of inner concepts: 1 or 2, or 0 if no concept begins so."""
    if place >= len(numbers) or numbers[place] >= len(INNER_CONCEPTS):
        return 0
    limit = ARGUMENT_LIMITS[numbers[place]]
    if limit == 0:
        return 1
    if place + 1 < len(numbers) and numbers[place + 1] < limit:
        return 2
    return 0


def concept_end(numbers, start):
    """The place behind the concept that begins at start, or 0 if there is no concept."""
    place = start
    missing = 1
    while missing > 0:
        width = head_width(numbers, place)
        if width == 0:
            return 0
        missing += INNER_CONCEPTS[numbers[place]] - 1
        place += width
    return place


def split_concepts(numbers):
    """The concepts that the numbers consist of, as tuples; none if the numbers are not just concepts."""
    concepts = []
    place = 0
    while place < len(numbers):
        end = concept_end(numbers, place)
        if end == 0:
            return []
        concepts.append(tuple(numbers[place:end]))
        place = end
    return concepts


def concept_starts(concept):
    """The places where the concept and all concepts inside it begin, in ascending order."""
    starts = []
    place = 0
    while place < len(concept):
        starts.append(place)
        place += head_width(concept, place)
    return starts


def is_atom(concept):
    """Whether the concept is a name or begins with 6 or 7."""
    return concept[0] in (2, 6, 7)


def atoms_in(concepts):
    """The atoms that occur in the concepts, each of them once."""
    atoms = []
    for concept in concepts:
        for start in concept_starts(concept):
            inner = concept[start:concept_end(concept, start)]
            if is_atom(inner) and inner not in atoms:
                atoms.append(inner)
    return atoms
