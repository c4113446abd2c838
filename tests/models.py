"""Plain models of kept forms and wishes, worked out dot by dot, with which the tests compare the program."""

from ringheld.clock import Clock
from ringheld.keep import Keep

WORDS = ["put", "add", "mark", "unmark", "raise", "lower", "clear"]
PATHS = [(), ("a",), ("a", "b"), ("ab",), ("b", "a")]
ITEMS = [1, 2, "1", "b"]


def keep_of(pairs, dots):
    """Return the kept form with the pairs of a dict and with a clock of these dots."""
    return Keep(list(pairs.items()), Clock(list(dots)))


def value_of(pairs, dots):
    return (tuple(sorted(pairs.items())), Clock(list(dots)).value())


def joined(one, other):
    """Return the join of two tuples (pairs, dots), each a dict and a set (point 2.2)."""
    pairs = {}
    for dot in one[1] | other[1]:
        in_one, in_other = dot in one[0], dot in other[0]
        if in_one and (in_other or dot not in other[1]):
            pairs[dot] = one[0][dot]
        elif in_other and dot not in one[1]:
            pairs[dot] = other[0][dot]
    return pairs, one[1] | other[1]


def begins(path, first):
    return list(path[:len(first)]) == list(first)


def entry_of(wish):
    """Return the entry of a wish, or None (point 3.2)."""
    kinds = {"put": "value", "add": "amount", "mark": "element"}
    if wish[0] == "raise":
        return (wish[1], "flag", 1)
    return (wish[1], kinds[wish[0]], wish[2]) if wish[0] in kinds else None


def overtakes(wish, entry):
    """Return True if the wish overtakes the entry (point 3.3)."""
    path, kind, item = entry
    same = path == wish[1]
    return {
        "put": lambda: same and kind == "value",
        "add": lambda: False,
        "mark": lambda: same and kind == "element" and item == wish[2],
        "unmark": lambda: same and kind == "element" and item == wish[2],
        "raise": lambda: same and kind == "flag",
        "lower": lambda: same and kind == "flag",
        "clear": lambda: begins(path, wish[1]),
    }[wish[0]]()


def any_wish(random, paths=PATHS):
    """Return a wish that the random source chooses."""
    word, path = random.choice(WORDS), random.choice(paths)
    if word in ("raise", "lower", "clear"):
        return (word, path)
    return (word, path, random.choice([5, -5, 0, 3] if word == "add" else ITEMS))


def all_wishes(paths=PATHS):
    wishes = [(word, path) for word in ("raise", "lower", "clear") for path in paths]
    wishes += [(word, path, item) for word in ("put", "mark", "unmark") for path in paths for item in ITEMS]
    return wishes + [("add", path, integer) for path in paths for integer in (5, -5, 0)]


def any_history(random, many):
    """Return a history of so many deeds at most, of which some overtake dots that have no deed."""
    dots = [(client, number) for client in range(3) for number in range(1, 7)]
    history = []
    for dot in random.sample(dots, random.randint(0, many)):
        over = [other for other in dots if other != dot and random.random() < 0.15]
        history.append((dot, entry_of(any_wish(random)), tuple(over)))
    return history
