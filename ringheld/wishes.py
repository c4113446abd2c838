"""Wishes, and the deeds that clients make of them (points 3.1 to 3.4 of the document)."""

from ringheld.values import is_integer, is_item, is_path

# The kind of the entries that a wish puts or overtakes. A clear is of no kind: it overtakes every kind.
KINDS = {"put": "value", "add": "amount", "mark": "element", "unmark": "element", "raise": "flag", "lower": "flag"}


def is_wish(thing):
    """Return True if the thing is a wish (point 3.1). Any Python object may be passed."""
    if type(thing) is not tuple or len(thing) < 2:
        return False
    return is_path(thing[1]) and _may_end(thing[0], thing[2:])


def wish_deed(wish, keep):
    """Return the tuple (entry, over) of the deed that a client makes of a wish over a kept form."""
    return (_entry_of(wish), tuple([dot for dot, entry in keep if _overtakes(wish, entry)]))


def _may_end(word, rest):
    """Return True if a wish with this word may have the rest, a tuple, behind its path."""
    # Only a string may be compared: an object of another class could raise an error of its own.
    if type(word) is not str:
        return False
    if word in ("raise", "lower", "clear"):
        return len(rest) == 0
    if word == "add":
        return len(rest) == 1 and is_integer(rest[0])
    return word in ("put", "mark", "unmark") and len(rest) == 1 and is_item(rest[0])


def _entry_of(wish):
    """Return the entry of a wish, or None if it has none."""
    word, path = wish[0], wish[1]
    if word == "raise":
        return (path, "flag", 1)
    if word in ("put", "add", "mark"):
        return (path, KINDS[word], wish[2])
    return None


def _overtakes(wish, entry):
    """Return True if the wish overtakes the entry."""
    word, path = wish[0], wish[1]
    if word == "clear":
        return entry[0][:len(path)] == path
    if word == "add" or entry[0] != path or entry[1] != KINDS[word]:
        return False
    return word not in ("mark", "unmark") or entry[2] == wish[2]
