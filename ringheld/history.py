"""Histories: lists of deeds with different dots, in any order (points 2.6 to 2.9 of the document)."""

from ringheld.clock import Clock
from ringheld.keep import Keep


def live(history):
    """Return the list of the live pairs of a history, by ascending dot."""
    overtaken = {dot: True for deed in history for dot in deed[2]}
    pairs = [(dot, entry) for dot, entry, over in history if entry is not None and dot not in overtaken]
    return sorted(pairs, key=lambda pair: pair[0])


def kept(history):
    """Return the kept form of a history."""
    own = [deed[0] for deed in history]
    overtaken = [dot for deed in history for dot in deed[2]]
    return Keep(live(history), Clock(own + overtaken))


def heard(history, clock):
    """Return the list of the deeds whose dots the clock has, in the order of the history."""
    return [deed for deed in history if deed[0] in clock]
