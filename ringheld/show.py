"""What pairs of a dot and an entry show (points 3.5 to 3.7 of the document)."""


def show(pairs):
    """Return the tuple of the rows (path, kind, shown) that the pairs show."""
    items = {}
    for _, entry in sorted(pairs, key=lambda pair: pair[0]):
        items.setdefault((entry[0], entry[1]), []).append(entry[2])
    return tuple([(path, kind, _shown(kind, items[path, kind])) for path, kind in sorted(items)])


def _shown(kind, items):
    """Return what stands in the row of a kind, for the list of its items by ascending dot."""
    if kind == "amount":
        return sum(items)
    if kind == "element":
        return _each_once(items)
    if kind == "flag":
        return 1
    return tuple(items)


def _each_once(items):
    """Return the tuple of the items, each once, ascending integers before ascending texts."""
    # Python does not compare an integer with a text, so they are sorted apart.
    texts = sorted({item for item in items if type(item) is str})
    integers = sorted({item for item in items if type(item) is not str})
    return tuple(integers + texts)
