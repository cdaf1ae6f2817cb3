"""The program as it is called: a list of calls in, the list of their results out."""

from missingaxioms.service import Service


class UnknownCall(ValueError):
    """No call has this number."""


class CallReader:
    """Goes through the list of calls number by number, and leaves the list as it is."""

    def __init__(self, calls):
        self.calls = calls
        self.place = 0

    def has_more(self):
        """Whether there are numbers left."""
        return self.place < len(self.calls)

    def number(self):
        """The number that comes now."""
        found = self.calls[self.place]
        self.place += 1
        return found

    def row(self):
        """The row that comes now: how many numbers it has, then these."""
        size = self.number()
        start = self.place
        self.place += size
        return self.calls[start:self.place]


def apply_call(target, reader):
    """Applies the call that comes now to the target, and gives back its result."""
    call = reader.number()
    if call == 0:
        return target.begins()
    if call == 1:
        return target.line(reader.row())
    if call == 2:
        price = reader.number()
        return target.guess(price, reader.row())
    if call == 3:
        return target.keep(reader.row())
    if call == 4:
        return target.answers_of(reader.row())
    if call == 5:
        return target.cheapest(reader.row())
    if call == 6:
        chosen = reader.row()
        return target.check(chosen, reader.row())
    if call == 7:
        return target.greatest()
    if call == 8:
        return target.take(reader.number())
    raise UnknownCall(f"no call has the number {call}")


def answers(calls):
    """For each call, in order: how many numbers its result has, then these numbers."""
    reader = CallReader(calls)
    target = Service()
    given = []
    while reader.has_more():
        result = apply_call(target, reader)
        given.append(len(result))
        given.extend(result)
    return given
