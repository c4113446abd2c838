"""What wishes, kept forms and what is shown do together (points 3.8 to 3.10)."""

import itertools
import random
import unittest

from models import ITEMS, PATHS, all_wishes, any_history, any_wish, begins, entry_of, overtakes
from ringheld.clock import Clock
from ringheld.history import kept
from ringheld.keep import Keep, empty_keep, piece
from ringheld.show import show
from ringheld.wishes import wish_deed

# So few paths and items that the wishes of several clients meet each other.
FEW_PATHS = [(), ("a",), ("a", "b"), ("ab",)]


def with_wish(keep, dot, wish):
    """Return the kept form, joined with the piece of a client's deed."""
    entry, over = wish_deed(wish, keep)
    return keep | piece((dot, entry, over))


def rows_of(keep):
    """Return what a kept form shows as a dict from (path, kind)."""
    return {(path, kind): shown for path, kind, shown in show(list(keep))}


def in_order(items):
    return tuple(sorted(items, key=lambda item: (isinstance(item, str), item)))


def put_items(rows, place, items):
    """Set the row of elements, or take it away if none is left."""
    rows.pop(place, None)
    if items:
        rows[place] = in_order(items)


def rows_behind(rows, wish):
    """Return the rows behind a wish, by point 3.8."""
    rows = dict(rows)
    word, path = wish[:2]
    items = set(rows.get((path, "element"), ()))
    if word == "put":
        rows[path, "value"] = (wish[2],)
    elif word == "add":
        rows[path, "amount"] = rows.get((path, "amount"), 0) + wish[2]
    elif word == "mark":
        put_items(rows, (path, "element"), items | {wish[2]})
    elif word == "unmark":
        put_items(rows, (path, "element"), items - {wish[2]})
    elif word == "raise":
        rows[path, "flag"] = 1
    elif word == "lower":
        rows.pop((path, "flag"), None)
    else:
        rows = {place: rows[place] for place in rows if not begins(place[0], path)}
    return rows


class OneWish(unittest.TestCase):
    def test_one_row_changes_and_no_other(self):
        source = random.Random(38)
        for _ in range(80):
            keep = kept(any_history(source, 14))
            before = rows_of(keep)
            for wish in all_wishes():
                for dot in [keep.clock.next_dot(source.randrange(4)), (9, 5)]:
                    self.assertEqual(rows_of(with_wish(keep, dot, wish)), rows_behind(before, wish), wish)
            self.assertEqual(rows_of(keep), before)

    def test_over_the_empty_kept_form(self):
        for wish in all_wishes():
            self.assertEqual(rows_of(with_wish(empty_keep(), (0, 1), wish)), rows_behind({}, wish))

    def test_values_of_several_clients_become_one(self):
        keep = Keep([((client, 1), (("a",), "value", client)) for client in range(3)],
                    Clock([(client, 1) for client in range(3)]))
        self.assertEqual(show(list(keep)), ((("a",), "value", (0, 1, 2)),))
        self.assertEqual(show(list(with_wish(keep, (1, 2), ("put", ("a",), 1)))), ((("a",), "value", (1,)),))

    def test_an_amount_of_zero_has_a_row(self):
        keep = with_wish(empty_keep(), (0, 1), ("add", (), 0))
        self.assertEqual(show(list(keep)), (((), "amount", 0),))
        keep = with_wish(with_wish(keep, (0, 2), ("add", (), 4)), (0, 3), ("add", (), -4))
        self.assertEqual(show(list(keep)), (((), "amount", 0),))
        self.assertEqual(show(list(with_wish(keep, (0, 4), ("clear", ())))), ())

    def test_great_clocks(self):
        clock = Clock.from_value(((0, 10 ** 12 - 1, ()), (1, 10 ** 12, ())))
        keep = Keep([((0, 5), ((), "value", 1)), ((1, 10 ** 12), ((), "amount", 2))], clock)
        for wish in all_wishes():
            after = with_wish(keep, keep.clock.next_dot(0), wish)
            self.assertEqual(rows_of(after), rows_behind(rows_of(keep), wish))
            self.assertEqual(after.clock.value(), ((0, 10 ** 12, ()), (1, 10 ** 12, ())))


class Alone(unittest.TestCase):
    def test_a_client_that_is_alone_has_the_plain_object(self):
        for seed in range(20):
            source = random.Random(seed)
            keep, rows = empty_keep(), {}
            for number in range(1, 121):
                wish = any_wish(source)
                self.assertEqual(keep.clock.next_dot(3), (3, number))
                keep, rows = with_wish(keep, (3, number), wish), rows_behind(rows, wish)
                self.assertEqual(rows_of(keep), rows)
            self.assertEqual(keep.clock.value(), ((3, 120, ()),))
            self.assertTrue(all(len(shown) == 1 for place, shown in rows_of(keep).items() if place[1] == "value"))


class Side:
    """A client that goes on from a base alone, with a plain record of what it did (point 3.9)."""

    def __init__(self, base, number):
        self.keep = base
        self.number = number
        self.wishes = []

    def wish(self, wish, skipped=0):
        client, number = self.keep.clock.next_dot(self.number)
        dot = (client, number + skipped)
        self.keep = with_wish(self.keep, dot, wish)
        self.wishes.append((dot, wish))

    def since_clear(self, path):
        """Return the wishes behind the last clear of the path, and whether there is such a clear."""
        at = [k for k, (_, wish) in enumerate(self.wishes) if wish[0] == "clear" and begins(path, wish[1])]
        return (self.wishes[at[-1] + 1:], True) if at else (self.wishes, False)

    def last(self, words, path, *item):
        """Return the last (dot, wish) of these words behind the last clear, or None, and whether it touched."""
        wishes, cleared = self.since_clear(path)
        own = [(dot, wish) for dot, wish in wishes if wish[0] in words and wish[1:] == (path, *item)]
        return (own[-1] if own else None), cleared or bool(own)

    def last_put(self, path):
        wishes, cleared = self.since_clear(path)
        own = [(dot, wish[2]) for dot, wish in wishes if wish[0] == "put" and wish[1] == path]
        return (own[-1] if own else None), cleared or bool(own)


def is_there(sides, in_base, words, path, *item):
    """Return whether an element or a flag is there when the sides are joined."""
    lasts = [side.last(words, path, *item) for side in sides]
    if not any(touched for _, touched in lasts):
        return in_base
    return any(last is not None and last[1][0] == words[0] for last, touched in lasts if touched)


def merged_values(sides, base_rows, path):
    puts = [side.last_put(path) for side in sides]
    if not any(touched for _, touched in puts):
        return base_rows.get((path, "value"), ())
    return tuple([item for _, item in sorted([put for put, _ in puts if put is not None])])


def merged_amount(sides, base_rows, path):
    """Return the amounts that count, of the base and of the sides."""
    parts = [side.since_clear(path) for side in sides]
    counts = [base_rows[path, "amount"]] if (path, "amount") in base_rows else []
    if any(cleared for _, cleared in parts):
        counts = []
    return counts + [wish[2] for wishes, _ in parts for _, wish in wishes if wish[:2] == ("add", path)]


def merged_rows(sides, base_rows, paths):
    """Return the rows that the join of the sides shows, by point 3.9."""
    rows = {}
    for path in paths:
        values = merged_values(sides, base_rows, path)
        elements = [item for item in ITEMS
                    if is_there(sides, item in base_rows.get((path, "element"), ()), ("mark", "unmark"), path, item)]
        amounts = merged_amount(sides, base_rows, path)
        if values:
            rows[path, "value"] = values
        put_items(rows, (path, "element"), elements)
        if is_there(sides, (path, "flag") in base_rows, ("raise", "lower"), path):
            rows[path, "flag"] = 1
        if amounts:
            rows[path, "amount"] = sum(amounts)
    return rows


class Sides(unittest.TestCase):
    def check(self, base, sides, source, paths=PATHS):
        keeps = [side.keep for side in sides] + [source.choice([base] + [side.keep for side in sides])]
        expected = merged_rows(sides, rows_of(base), paths)
        for _ in range(3):
            source.shuffle(keeps)
            whole = keeps[0]
            for keep in keeps[1:]:
                whole = whole | keep
            self.assertEqual(rows_of(whole), expected)

    def test_any_sides(self):
        for seed in range(400):
            source = random.Random(seed)
            base = kept(any_history(source, 10))
            sides = [Side(base, number) for number in source.sample(range(6), source.randint(1, 4))]
            for side in sides:
                for _ in range(source.randint(0, 7)):
                    side.wish(any_wish(source, FEW_PATHS), source.choice([0, 0, 2]))
            self.check(base, sides, source)

    def test_two_sides_with_one_or_two_wishes_each(self):
        wishes = [("put", ("a",), 1), ("mark", ("a",), 1), ("unmark", ("a",), 1), ("raise", ("a",)), ("lower", ("a",)),
                  ("add", ("a",), 5), ("clear", ()), ("clear", ("a",)), ("clear", ("a", "b"))]
        base = empty_keep()
        for number, wish in enumerate([("put", ("a",), 2), ("mark", ("a",), 1), ("raise", ("a",)), ("add", ("a",), 7)]):
            base = with_wish(base, (0, number + 1), wish)
        source = random.Random(39)
        for wishes_of_both in itertools.product(itertools.product(wishes + [None], repeat=2), repeat=2):
            sides = [Side(base, 1), Side(base, 2)]
            for side, chosen in zip(sides, wishes_of_both):
                for wish in chosen:
                    if wish is not None:
                        side.wish(wish)
            self.check(base, sides, source)

    def test_marks_are_stronger_than_unmarks_and_clears(self):
        base = with_wish(with_wish(empty_keep(), (0, 1), ("mark", ("a",), 5)), (0, 2), ("raise", ("a",)))
        for against in [("unmark", ("a",), 5), ("clear", ("a",)), ("clear", ())]:
            joined = with_wish(base, (1, 1), ("mark", ("a",), 5)) | with_wish(base, (2, 1), against)
            self.assertIn((("a",), "element", (5,)), show(list(joined)))
        for against in [("lower", ("a",)), ("clear", ("a",)), ("clear", ())]:
            joined = with_wish(base, (1, 1), ("raise", ("a",))) | with_wish(base, (2, 1), against)
            self.assertIn((("a",), "flag", 1), show(list(joined)))

    def test_equal_values_of_two_sides_stand_twice(self):
        base = with_wish(empty_keep(), (0, 1), ("put", (), "old"))
        joined = with_wish(base, (2, 1), ("put", (), "new")) | with_wish(base, (1, 1), ("put", (), "new"))
        self.assertEqual(show(list(joined)), (((), "value", ("new", "new")),))
        joined = with_wish(base, (2, 1), ("put", (), "b")) | with_wish(base, (1, 1), ("put", (), "c"))
        self.assertEqual(show(list(joined)), (((), "value", ("c", "b")),))


class Clients(unittest.TestCase):
    """Clients that join whole kept forms of each other, also elder ones (point 3.10)."""

    def setUp(self):
        self.wished = {}
        self.seen = {}

    def expected(self, dots):
        """Return the pairs that a kept form with these dots in its clock has."""
        return {dot: entry_of(self.wished[dot]) for dot in dots if entry_of(self.wished[dot]) is not None and not any(
            dot in self.seen[other] and overtakes(self.wished[other], entry_of(self.wished[dot])) for other in dots)}

    def dots_in(self, keep):
        return {dot for dot in self.wished if dot in keep.clock}

    def check(self, keep):
        dots = self.dots_in(keep)
        self.assertEqual(dict(keep), self.expected(dots))
        self.assertEqual(keep.clock.value(), Clock(sorted(dots)).value())

    def wish(self, keep, client, wish):
        dot = keep.clock.next_dot(client)
        self.wished[dot], self.seen[dot] = wish, self.dots_in(keep)
        return with_wish(keep, dot, wish)

    def run_clients(self, source, steps):
        """Let clients wish and join; return all kept forms that any of them had."""
        now = [empty_keep() for _ in range(source.randint(2, 4))]
        had = list(now)
        for _ in range(steps):
            client = source.randrange(len(now))
            if source.random() < 0.5:
                now[client] = self.wish(now[client], client, any_wish(source, FEW_PATHS))
            else:
                now[client] = now[client] | source.choice(had[-8:] if source.random() < 0.6 else had)
            had.append(now[client])
        return had

    def test_any_clients(self):
        for seed in range(60):
            self.setUp()
            for keep in self.run_clients(random.Random(seed), 30):
                self.check(keep)

    def test_all_that_they_had_joined(self):
        for seed in range(100, 120):
            self.setUp()
            whole = empty_keep()
            for keep in self.run_clients(random.Random(seed), 40):
                whole = whole | keep
            self.check(whole)
            self.assertEqual(self.dots_in(whole), set(self.wished))
