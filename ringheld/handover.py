"""The handover of places from the owners of one ring to those of the next one (point 5.12)."""

from ringheld.keep import Keep, empty_keep
from ringheld.quorum import enough


class Handover:
    """What a house that takes over for a view has heard until now."""

    def __init__(self, owner, view, old, new, terms):
        self.owner = owner
        self.target = view
        self._old = old
        self._new = new
        self._terms = terms
        self._told = {}
        self._senders = {}

    def hear(self, sender, told):
        """Hear a house: join what it tells, a tuple of pairs (key, keep_value), and count it."""
        # A kept form that cannot be read raises an error, before anything is changed.
        pairs = [(key, Keep.from_value(keep_value)) for key, keep_value in told]
        for key, keep in pairs:
            self._told[key] = self._told.get(key, empty_keep()) | keep
        self._senders[sender] = True

    def heard(self):
        """Return the ascending list of the houses that were heard."""
        return sorted(self._senders)

    def ready(self):
        """Return True if enough old owners were heard of each place that the house owns in the new ring."""
        senders = self.heard()
        places = self._new.places_of(self.owner)
        return all([enough(senders, self._old.owners(place), self._terms.handing) for place in places])

    def taken(self):
        """Return the dict from the keys that were told to the joined kept forms."""
        return dict(self._told)
