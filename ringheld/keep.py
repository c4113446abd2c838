"""Kept forms: pairs of a dot and an entry, with a clock (points 2.1 to 2.5 of the document)."""

from ringheld.clock import Clock
from ringheld.errors import BadValue
from ringheld.values import ascends, is_dot, is_entry


class Keep:
    """A kept form, which does not change.

    Its pairs are held twice: in a tuple by ascending dot, and in a dict from dots to entries.
    """

    def __init__(self, pairs, clock):
        entries = {dot: entry for dot, entry in pairs}
        if len(entries) != len(pairs):
            raise BadValue("two pairs have the same dot")
        if not all([dot in clock for dot in entries]):
            raise BadValue("the clock does not have the dot of a pair")
        self._entries = entries
        self._pairs = tuple([(dot, entries[dot]) for dot in sorted(entries)])
        self._clock = clock

    def __len__(self):
        return len(self._pairs)

    def __iter__(self):
        return iter(self._pairs)

    @property
    def clock(self):
        """Return the clock."""
        return self._clock

    def entry(self, dot):
        """Return the entry of the pair with this dot, or None if there is none."""
        return self._entries.get(dot)

    def __or__(self, other):
        own = [(dot, entry) for dot, entry in self._pairs if not other._lacks(dot)]
        # A pair that both have stands among the own ones already: the clock has its dot.
        more = [(dot, entry) for dot, entry in other._pairs if dot not in self._clock]
        return Keep(own + more, self._clock | other._clock)

    def covers(self, other):
        """Return True if joining the other kept form to this one changes nothing."""
        return self._clock.covers(other._clock) and not any([other._lacks(dot) for dot in self._entries])

    def value(self):
        """Return the tuple of the tuple of the pairs and of the value of the clock."""
        return (self._pairs, self._clock.value())

    @staticmethod
    def from_value(value):
        """Return the kept form that has this value. Raise BadValue if no kept form has it."""
        if type(value) is not tuple or len(value) != 2 or not _are_pairs(value[0]):
            raise BadValue("no kept form has this value")
        return Keep(list(value[0]), Clock.from_value(value[1]))

    def _lacks(self, dot):
        """Return True if the clock has the dot, but no pair has it."""
        return dot in self._clock and dot not in self._entries


def empty_keep():
    """Return the kept form without pairs whose clock has no dots."""
    return Keep([], Clock([]))


def piece(deed):
    """Return the piece of a deed."""
    dot, entry, over = deed
    pairs = [] if entry is None else [(dot, entry)]
    return Keep(pairs, Clock([dot] + list(over)))


def _are_pairs(thing):
    """Return True if the thing is a tuple of pairs by ascending dot, each dot once."""
    return (type(thing) is tuple and all([_is_pair(part) for part in thing])
            and ascends([part[0] for part in thing]))


def _is_pair(thing):
    return type(thing) is tuple and len(thing) == 2 and is_dot(thing[0]) and is_entry(thing[1])
