"""The ring: places, points, and which houses own what (points 4.1 to 4.8 of the document)."""

from ringheld.errors import BadValue
from ringheld.values import is_integer, is_number

# How many places stand around a ring.
PLACES = 256
MOST_COPIES = 7


def place_of(key):
    """Return the place of a key (point 4.2)."""
    place = 7
    for sign in key:
        place = (place * 31 + ord(sign)) % PLACES
    return place


class Ring:
    """A ring, which does not change. The owners of each place are worked out when it is made."""

    def __init__(self, points, copies):
        if not _are_points(points):
            raise BadValue("a ring has a list of points with different places")
        if not is_integer(copies) or not 1 <= copies <= MOST_COPIES:
            raise BadValue("a ring has 1 to 7 copies")
        if len({house for place, house in points}) < copies:
            raise BadValue("a ring has at least as many different houses as copies")
        self._copies = copies
        self._points = tuple(sorted(points))
        self._owners = _owners_by_place(self._points, copies)

    @property
    def copies(self):
        """Return the number of copies."""
        return self._copies

    def owners(self, place):
        """Return the list of the owners of a place, in the order in which they are met."""
        return list(self._owners[place])

    def owners_of(self, key):
        """Return the list of the owners of a key, in the order in which they are met."""
        return self.owners(place_of(key))

    def houses(self):
        """Return the ascending list of the different houses that have points."""
        return sorted({house for place, house in self._points})

    def places_of(self, house):
        """Return the ascending list of the places that a house owns."""
        return [place for place in range(PLACES) if house in self._owners[place]]

    def value(self):
        """Return the tuple of the copies and of the tuple of the points, by ascending place."""
        return (self._copies, self._points)

    @staticmethod
    def from_value(value):
        """Return the ring that has this value. Raise BadValue if no ring has it."""
        if type(value) is not tuple or len(value) != 2:
            raise BadValue("the value of a ring is a tuple of two")
        copies, points = value
        if type(points) is not tuple:
            raise BadValue("the points of the value are no tuple")
        ring = Ring(list(points), copies)
        # The points of a ring may come in any order, those of its value may not.
        if ring.value() != value:
            raise BadValue("the points of the value do not ascend")
        return ring


def _are_points(thing):
    """Return True if the thing is a list of points with different places."""
    return (type(thing) is list and all([_is_point(part) for part in thing])
            and len({place for place, house in thing}) == len(thing))


def _is_point(thing):
    return (type(thing) is tuple and len(thing) == 2
            and is_number(thing[0]) and thing[0] < PLACES and is_number(thing[1]))


def _owners_by_place(points, copies):
    """Return the list of the lists of owners of all places, for points by ascending place."""
    houses = [house for place, house in points]
    found = []
    for at in range(len(points)):
        owners = _first_met(houses[at:] + houses[:at], copies)
        # These own the place of the point, and the places between it and the point before.
        found.extend([owners] * (points[at][0] + 1 - len(found)))
    # Behind the last point the search goes on at the first one.
    return found + [found[0]] * (PLACES - len(found))


def _first_met(houses, copies):
    """Return the list of the first different houses of a list, as many as copies."""
    owners = []
    for house in houses:
        if house not in owners:
            owners.append(house)
        if len(owners) == copies:
            break
    return owners
