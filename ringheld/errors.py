"""The errors that the program raises. Each is created with one string, its message."""


class RingError(ValueError):
    """The base class of all errors of the program."""


class BadValue(RingError):
    """Something that was passed does not have the form that it must have."""


class Busy(RingError):
    """A client has an open request already."""


class Unknown(RingError):
    """There is no such client, house, view or message."""


class HouseDown(RingError):
    """The house that is to do something is down."""
