"""Clocks: sets of dots that do not change (points 1.7 to 1.10 of the document)."""

from ringheld.errors import BadValue
from ringheld.values import ascends, is_number

# The pair (upto, later) of a client of which a clock has no dots.
NO_DOTS = (0, ())


class Clock:
    """A set of dots.

    For each client of its dots, and no other, a clock holds the pair (upto, later) of point 1.8.
    There is only one such pair for a set of numbers, so clocks with the same dots have the
    same value, and an upto is never taken apart into the numbers below it.
    """

    def __init__(self, dots):
        self._rows = _rows_of(dots)

    def __contains__(self, dot):
        client, number = dot
        upto, later = self._rows.get(client, NO_DOTS)
        return number <= upto or number in later

    def __or__(self, other):
        rows = dict(self._rows)
        for client in other._rows:
            rows[client] = _joined(rows.get(client, NO_DOTS), other._rows[client])
        union = Clock([])
        union._rows = rows
        return union

    def covers(self, other):
        """Return True if this clock has all dots of the other one."""
        return (self | other).value() == self.value()

    def with_dot(self, dot):
        """Return the union of this clock and the clock of the dot alone."""
        return self | Clock([dot])

    def size(self):
        """Return how many dots this clock has."""
        return sum([upto + len(later) for upto, later in self._rows.values()])

    def next_dot(self, client):
        """Return the dot of the client that comes after its greatest one."""
        upto, later = self._rows.get(client, NO_DOTS)
        # The numbers of later are all above upto.
        greatest = later[-1] if len(later) > 0 else upto
        return (client, greatest + 1)

    def value(self):
        """Return the tuple of the rows (client, upto, later), by ascending client."""
        return tuple([(client, upto, later) for client, (upto, later) in sorted(self._rows.items())])

    @staticmethod
    def from_value(value):
        """Return the clock that has this value. Raise BadValue if no clock has it."""
        if not _is_value(value):
            raise BadValue("no clock has this value")
        clock = Clock([])
        clock._rows = {client: (upto, later) for client, upto, later in value}
        return clock


def _rows_of(dots):
    """Return the dict from the clients of the dots to their pairs (upto, later)."""
    ordered = sorted(dots)
    starts = [at for at in range(len(ordered)) if at == 0 or ordered[at - 1][0] != ordered[at][0]]
    ends = starts[1:] + [len(ordered)]
    return {ordered[start][0]: _packed(0, [number for client, number in ordered[start:end]])
            for start, end in zip(starts, ends)}


def _packed(upto, numbers):
    """Return the pair (upto, later) of the numbers 1 to upto and of the given ones, in any order."""
    later = []
    for number in sorted(set(numbers)):
        if number == upto + 1:
            upto = number
        elif number > upto:
            later.append(number)
    return (upto, tuple(later))


def _joined(row, other):
    """Return the pair (upto, later) of the numbers that at least one of two such pairs has."""
    upto, later = row
    other_upto, other_later = other
    return _packed(max(upto, other_upto), later + other_later)


def _is_value(thing):
    """Return True if the thing is the value of some clock."""
    return (type(thing) is tuple and all([_is_row(row) for row in thing])
            and ascends([row[0] for row in thing]))


def _is_row(thing):
    return (type(thing) is tuple and len(thing) == 3
            and is_number(thing[0]) and is_number(thing[1]) and _is_later(thing[1], thing[2]))


def _is_later(upto, thing):
    """Return True if a row with this upto may have the thing as its later."""
    if type(thing) is not tuple or not all([is_number(number) for number in thing]):
        return False
    if len(thing) == 0:
        return upto > 0
    return thing[0] > upto + 1 and ascends(thing)
