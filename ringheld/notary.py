"""The notary, who numbers the rings (point 5.1 of the document)."""

from ringheld.errors import BadValue, Unknown


class Notary:
    """A notary. The place of a ring in the list of its rings is the ring's view."""

    def __init__(self, ring, terms):
        self.terms = terms
        self._rings = []
        self.enter(ring)

    @property
    def newest(self):
        """Return the greatest view."""
        return len(self._rings) - 1

    def enter(self, ring):
        """Enter a ring and return its view. Raise BadValue if its copies are not those of the terms."""
        if ring.copies != self.terms.copies:
            raise BadValue("the ring has other copies than the terms")
        self._rings.append(ring)
        return self.newest

    def ring(self, view):
        """Return the ring of a view. Raise Unknown if there is none."""
        if not 0 <= view <= self.newest:
            raise Unknown("there is no such view")
        return self._rings[view]
