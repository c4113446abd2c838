"""Clients, which wish changes and ask for objects (points 6.1 to 6.8 of the document)."""

from ringheld.errors import Busy
from ringheld.keep import Keep, empty_keep, piece
from ringheld.wishes import wish_deed


class Request:
    """An open request, and to which houses it was sent last.

    A store has the kept form that it stores, a fetch has None. The dot is that of the deed of a wish.
    """

    def __init__(self, ticket, kind, key, *, dot=None, stored=None):
        self.ticket = ticket
        self.kind = kind
        self.key = key
        self.dot = dot
        self.stored = stored
        self.last_view = None
        self.receivers = []
        self.counted = []

    def aim(self, view, ring):
        """Turn to the owners of a ring. Houses stay counted only if the view is that of the last time."""
        if self.last_view != view:
            self.last_view = view
            self.receivers = [("house", house) for house in ring.owners_of(self.key)]
            self.counted = []

    def body(self):
        """Return the body that goes to each receiver."""
        if self.stored is None:
            return ("fetch", self.last_view, self.ticket, self.key)
        return ("store", self.last_view, self.ticket, self.key, self.stored.value())

    def is_answer(self, sender, body):
        """Return True if the message counts as an answer (point 6.5)."""
        word = "fetched" if self.stored is None else "stored"
        return (body[:3] == (word, self.last_view, self.ticket)
                and sender in self.receivers and sender not in self.counted)


class Client:
    """A client. What it knows stands in a dict from keys to kept forms."""

    def __init__(self, number, terms):
        self.number = number
        self.terms = terms
        self._learned = {}
        self._tickets = 0
        self._request = None

    @property
    def view(self):
        """Return the view in which the open request was sent last, or None."""
        return None if self._request is None else self._request.last_view

    def known(self, key):
        """Return the kept form that the client knows of a key."""
        return self._learned.get(key, empty_keep())

    def request(self):
        """Return the tuple (ticket, kind, key) of the open request, or None."""
        request = self._request
        return None if request is None else (request.ticket, request.kind, request.key)

    def wish(self, key, wish):
        """Take up a wish and return the pair of its ticket and its deed. Raise Busy if a request is open."""
        ticket = self._free_ticket()
        before = self.known(key)
        entry, over = wish_deed(wish, before)
        deed = (before.clock.next_dot(self.number), entry, over)
        self._learn(key, piece(deed))
        self._take_up(Request(ticket, "wish", key, dot=deed[0], stored=self.known(key)))
        return (ticket, deed)

    def ask(self, key, *, firm=False):
        """Ask for the object under a key and return the ticket. Raise Busy if a request is open."""
        ticket = self._free_ticket()
        self._take_up(Request(ticket, "firm" if firm else "read", key))
        return ticket

    def give_up(self):
        """Give up the open request, if there is one."""
        self._request = None

    def send(self, view, ring):
        """Send the open request in a view. Return the list of the pairs (receiver, body) that are sent."""
        request = self._request
        if request is None:
            return []
        request.aim(view, ring)
        return [(receiver, request.body()) for receiver in request.receivers]

    def handle(self, sender, body):
        """Handle a message. Return the event that it leads to, or None (point 6.6)."""
        request = self._request
        if request is None or not request.is_answer(sender, body):
            return None
        if request.stored is None:
            self._learn(request.key, Keep.from_value(body[3]))
        request.counted.append(sender)
        needed = self.terms.read if request.stored is None else self.terms.write
        return self._end(request) if len(request.counted) == needed else None

    def _free_ticket(self):
        """Return the ticket of the next request. Raise Busy if a request is open."""
        if self._request is not None:
            raise Busy("the client has an open request")
        return self._tickets + 1

    def _take_up(self, request):
        self._tickets = request.ticket
        self._request = request

    def _learn(self, key, keep):
        self._learned[key] = self.known(key) | keep

    def _end(self, request):
        """End the request, or make a store of a firm read. Return the event, or None."""
        known = self.known(request.key)
        if request.kind == "firm":
            self._request = Request(request.ticket, "firm store", request.key, stored=known)
            return None
        self._request = None
        if request.kind == "wish":
            return ("ended", request.ticket, request.dot)
        return ("shown", request.ticket, known.value())
