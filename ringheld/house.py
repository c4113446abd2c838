"""Houses, which keep objects and hand them over from view to view (points 5.2 to 5.13 of the document)."""

from ringheld.clock import Clock
from ringheld.handover import Handover
from ringheld.keep import Keep, empty_keep

# The floor of a house that has never forgotten. It is below every view.
NO_FLOOR = -1


class House:
    """A house. What it keeps stands in a dict from keys to kept forms.

    Its handover is the one that is under way: at its end, and when it is given up, it is None again.
    """

    def __init__(self, number, terms):
        self.number = number
        self.terms = terms
        self.forget(NO_FLOOR)

    @property
    def view(self):
        """Return the view that was opened last, or None."""
        return self._opened[-1] if len(self._opened) > 0 else None

    @property
    def opened(self):
        """Return the ascending list of the views that were opened since the house forgot last."""
        return list(self._opened)

    @property
    def sealed(self):
        """Return True if the house has sealed its view."""
        return self._sealed

    def serves(self, view):
        """Return True if this is the view of the house and is not sealed."""
        return self._opened[-1:] == [view] and not self._sealed

    def keep(self, key):
        """Return the kept form that the house keeps of a key."""
        return self._kept.get(key, empty_keep())

    def kept_keys(self):
        """Return the ascending list of the keys of which the house keeps something."""
        return sorted(self._kept)

    def start(self):
        """Open view 0."""
        self._go_to(0)

    def forget(self, floor):
        """Give up all that the house keeps, has opened and has begun. Views up to the floor stay closed to it."""
        self.floor = floor
        self._kept = {}
        self._opened = []
        self._sealed = False
        self._handover = None

    def fall(self):
        """Give up a handover that was begun."""
        self._handover = None

    def begin(self, view, old, new):
        """Begin to take over for a view. Return the list of the pairs (receiver, body) that are sent."""
        if view <= max([self.floor] + self._opened):
            return []
        self._handover = Handover(self.number, view, old, new, self.terms)
        if (view - 1) in self._opened:
            self._sealed = True
            self._handover.hear(self.number, self._all_kept())
        self._open_if_ready()
        return [(("house", house), ("seal", view - 1)) for house in old.houses() if house != self.number]

    def handle(self, sender, body):
        """Handle a message. Return the list of the pairs (receiver, body) that are sent."""
        word = body[0]
        if word in ("store", "fetch"):
            return [(sender, self._answer(body))]
        if word == "seal":
            return self._seal(sender, body[1])
        if word == "news":
            return [(sender, ("told", self._unknown_to(body[1])))]
        if word == "sealed":
            self._hear(sender, body[1], body[2])
        if word == "told":
            self._join_told(body[1])
        return []

    def news(self):
        """Return the body with the clocks of all that the house keeps, by ascending keys."""
        return ("news", tuple([(key, self._kept[key].clock.value()) for key in self.kept_keys()]))

    def _answer(self, body):
        """Return the answer to a store or a fetch."""
        word, view, ticket, key = body[:4]
        if not self.serves(view):
            return ("refused", view, ticket)
        if word == "fetch":
            return ("fetched", view, ticket, self.keep(key).value())
        self._join(key, Keep.from_value(body[4]))
        return ("stored", view, ticket)

    def _seal(self, sender, view):
        """Seal the view, if it is the last one. Return what is sent: nothing if the view was not opened."""
        if view not in self._opened:
            return []
        if view == self.view:
            self._sealed = True
        return [(sender, ("sealed", view, self._all_kept()))]

    def _hear(self, sender, view, told):
        """Let the handover for the next view, if it is under way, hear the sender with what is told."""
        handover = self._handover
        if handover is not None and handover.target == view + 1:
            handover.hear(sender[1], told)
            self._open_if_ready()

    def _open_if_ready(self):
        """Open the view of the handover that is under way, if enough was heard."""
        handover = self._handover
        if handover.ready():
            for key, keep in handover.taken().items():
                self._join(key, keep)
            self._go_to(handover.target)

    def _go_to(self, view):
        """Make a view the last one that was opened."""
        self._opened.append(view)
        self._sealed = False
        self._handover = None

    def _all_kept(self):
        """Return the tuple of the pairs (key, keep_value) of all that the house keeps, by ascending keys."""
        return tuple([(key, self._kept[key].value()) for key in self.kept_keys()])

    def _unknown_to(self, clocks):
        """Return the pairs (key, keep_value) of what the clocks, a tuple of pairs (key, clock_value), do not cover."""
        seen = {key: Clock.from_value(clock_value) for key, clock_value in clocks}
        return tuple([(key, self._kept[key].value()) for key in self.kept_keys()
                      if not seen.get(key, Clock([])).covers(self._kept[key].clock)])

    def _join_told(self, told):
        """Join what is told, a tuple of pairs (key, keep_value), to what the house keeps."""
        # A kept form that cannot be read raises an error, before anything is changed.
        pairs = [(key, Keep.from_value(keep_value)) for key, keep_value in told]
        for key, keep in pairs:
            self._join(key, keep)

    def _join(self, key, keep):
        self._kept[key] = self.keep(key) | keep
