"""The book, which holds the events of a hall (point 8.5 of the document)."""


class Book:
    """A book: a list of events that only grows."""

    def __init__(self):
        self._noted = []

    def __len__(self):
        return len(self._noted)

    def __iter__(self):
        return iter(self._noted)

    def note(self, event):
        """Put an event behind the last one."""
        self._noted.append(event)

    def events(self):
        """Return the list of all events, in the order in which they happened."""
        return list(self._noted)
