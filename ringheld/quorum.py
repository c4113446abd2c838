"""Terms: how many owners are enough for what (points 4.9 to 4.11 of the document)."""

from ringheld.errors import BadValue
from ringheld.values import is_number


class Terms:
    """Terms, which do not change."""

    def __init__(self, copies, write, read):
        if not (is_number(copies) and is_number(write) and is_number(read)):
            raise BadValue("terms are made of three numbers")
        if not (1 <= write <= copies and 1 <= read <= copies):
            raise BadValue("write and read are from 1 to copies")
        if write + read <= copies:
            raise BadValue("write and read together are more than copies")
        self._copies = copies
        self._write = write
        self._read = read

    @property
    def copies(self):
        """Return how many owners a key has."""
        return self._copies

    @property
    def write(self):
        """Return how many owners have to store a deed."""
        return self._write

    @property
    def read(self):
        """Return how many owners have to answer a read."""
        return self._read

    @property
    def handing(self):
        """Return how many owners of before have to tell a house that takes over a place."""
        return self._copies - min(self._write, self._read) + 1


def enough(members, owners, count):
    """Return True if at least so many of the owners are among the members (point 4.10)."""
    return len(set(owners) & set(members)) >= count
