"""The audit, which looks for what must not happen in the events of a book (points 9.1 to 9.5 of the document)."""

from ringheld.clock import Clock
from ringheld.history import heard, kept


class Past:
    """What the events tell that were looked at until now.

    Of wishes and of askings only the latest one of each client and ticket counts. All else is held
    by keys: deeds with the client that wished them, ended dots and the clocks of firm reads with the
    index of their event.
    """

    def __init__(self):
        self.wished = {}
        self.asked = {}
        self.deeds = {}
        self.ended = {}
        self.firm_reads = {}

    def take(self, index, event):
        """Add an event."""
        word = event[0]
        if word == "wished":
            _, client, ticket, key, deed = event
            self.wished[client, ticket] = (key, deed[0])
            self.deeds.setdefault(key, []).append((client, deed))
        if word == "asked":
            _, client, ticket, key, firm = event
            self.asked[client, ticket] = (index, key, firm)
        if word == "ended":
            _, client, ticket, dot = event
            if (client, ticket) in self.wished:
                key = self.wished[client, ticket][0]
                self.ended.setdefault(key, []).append((index, dot))
        if word == "shown":
            self._take_read(index, event)

    def _take_read(self, index, event):
        """Add an event "shown": its clock counts if its asking was firm."""
        _, client, ticket, keep_value = event
        if (client, ticket) in self.asked:
            _, key, firm = self.asked[client, ticket]
            if firm:
                self.firm_reads.setdefault(key, []).append((index, _clock_of(keep_value)))


def audit(events):
    """Return the list of the findings, pairs of a word and the index of an event, in the order of the events."""
    past = Past()
    findings = []
    for index, event in enumerate(events):
        word = _finding(past, event)
        if word is not None:
            findings.append((word, index))
        past.take(index, event)
    return findings


def _finding(past, event):
    """Return the first finding that applies to the event, or None."""
    if event[0] == "ended":
        return _finding_of_end(past, event)
    if event[0] == "shown":
        return _finding_of_read(past, event)
    return None


def _finding_of_end(past, event):
    _, client, ticket, dot = event
    if (client, ticket) not in past.wished:
        return "unasked"
    _, own_dot = past.wished[client, ticket]
    return None if dot == own_dot else "unasked"


def _finding_of_read(past, event):
    _, client, ticket, keep_value = event
    if (client, ticket) not in past.asked:
        return "unasked"
    asked_at, key, _ = past.asked[client, ticket]
    clock = _clock_of(keep_value)
    wrong = _finding_of_value(past.deeds.get(key, []), keep_value, clock)
    return _finding_of_lack(past, asked_at, key, client, clock) if wrong is None else wrong


def _finding_of_value(deeds, keep_value, clock):
    """Return the finding of what is shown beside the deeds, pairs (client, deed), that were wished, or None."""
    history = [deed for wisher, deed in deeds]
    if not Clock([deed[0] for deed in history]).covers(clock):
        return "unheard"
    if kept(heard(history, clock)).value() != keep_value:
        return "unexact"
    return None


def _finding_of_lack(past, asked_at, key, client, clock):
    """Return the finding of what should be in the clock of a read and is not, or None."""
    if any([wisher == client and deed[0] not in clock for wisher, deed in past.deeds.get(key, [])]):
        return "unowned"
    if any([index < asked_at and dot not in clock for index, dot in past.ended.get(key, [])]):
        return "stale"
    if any([index < asked_at and not clock.covers(other) for index, other in past.firm_reads.get(key, [])]):
        return "back"
    return None


def _clock_of(keep_value):
    """Return the clock of a kept form that is given by its value."""
    return Clock.from_value(keep_value[1])
