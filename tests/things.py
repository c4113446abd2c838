"""Python objects that the tests pass where any Python object may be passed."""

from ringheld.clock import Clock


class Touchy:
    """An object that raises an error whatever is asked of it."""

    def _refuse(self, *rest):
        raise RuntimeError("this object must not be looked into")

    __eq__ = __ne__ = __lt__ = __le__ = __gt__ = __ge__ = _refuse
    __hash__ = __len__ = __iter__ = __bool__ = __contains__ = __getitem__ = _refuse
    __class__ = property(_refuse)


class TouchyInteger(int):
    __eq__ = __ne__ = __lt__ = __le__ = __gt__ = __ge__ = __hash__ = __index__ = Touchy._refuse


class TouchyString(str):
    __eq__ = __ne__ = __lt__ = __le__ = __gt__ = __ge__ = Touchy._refuse
    __hash__ = __len__ = __iter__ = __contains__ = __getitem__ = Touchy._refuse


class TouchyTuple(tuple):
    __eq__ = __ne__ = __lt__ = __le__ = __gt__ = __ge__ = Touchy._refuse
    __hash__ = __len__ = __iter__ = __contains__ = __getitem__ = Touchy._refuse


def nested(kind, depth):
    """Return a tuple or list in which such ones are nested so deep."""
    thing = kind()
    for _ in range(depth - 1):
        thing = kind([thing])
    return thing


def odd_things():
    """Return objects that are no integer, text, tuple of names, dot, entry, deed or clock value."""
    return [
        None, True, False, 0.0, 1.0, 1.5, float("nan"), float("inf"), 2j, b"", b"a", bytearray(b"a"),
        [], [1], [1, 2], ["a"], [(0, 1)], ["a", 1, 2], {}, {1: 2}, {"a": "b", "c": 1, "d": 2}, set(), {1, 2},
        frozenset([1, 2]), range(2), iter([1, 2]), len, int, object(), Ellipsis, NotImplemented, ValueError("a"),
        Clock([]), Clock([(0, 1)]), Touchy(), TouchyInteger(1), TouchyString("a"), TouchyTuple((0, 1)),
        nested(tuple, 60), nested(list, 60), 10 ** 400, "a\u00e9", "\ud800", "\U0001f600", "x" * 10 ** 6,
    ]


def shown(thing):
    """Return the beginning of what a failed test says of the thing."""
    return ascii(thing)[:100]
