"""What pairs show (points 3.5 to 3.7)."""

import itertools
import random
import unittest

from models import any_history
from ringheld import show as show_file
from ringheld.history import live
from ringheld.show import show

LIMIT = 10 ** 12
PAIRS = [((0, 3), ((), "amount", 5)), ((0, 1), (("a",), "value", "x")), ((1, 1), (("a",), "value", 2)),
         ((0, 2), ((), "element", "b")), ((0, 10), (("a",), "flag", 1)), ((2, 1), ((), "amount", -7))]
ROWS = (((), "amount", -2), ((), "element", ("b",)), (("a",), "flag", 1), (("a",), "value", ("x", 2)))


def pairs_of(*entries):
    return [((0, at + 1), entry) for at, entry in enumerate(entries)]


def one_row(kind, *items):
    """Return what the row of a kind shows for items in ascending order of their dots."""
    rows = show(pairs_of(*[(("a",), kind, item) for item in items]))
    assert [row[:2] for row in rows] == [(("a",), kind)], rows
    return rows[0][2]


def shown_of(pairs):
    """Return the rows, by points 3.5 and 3.6 word for word."""
    rows = []
    for path, kind in sorted({entry[:2] for _, entry in pairs}):
        items = [entry[2] for _, entry in sorted(pairs) if entry[:2] == (path, kind)]
        numbers = sorted({item for item in items if isinstance(item, int)})
        texts = sorted({item for item in items if isinstance(item, str)})
        shown = {"amount": lambda: sum(items), "element": lambda: tuple(numbers + texts), "flag": lambda: 1,
                 "value": lambda: tuple(items)}[kind]()
        rows.append((path, kind, shown))
    return tuple(rows)


class Rows(unittest.TestCase):
    def test_no_pairs(self):
        self.assertEqual(show([]), ())

    def test_each_kind(self):
        self.assertEqual(show(pairs_of(((), "amount", 4))), (((), "amount", 4),))
        self.assertEqual(show(pairs_of(((), "element", 4))), (((), "element", (4,)),))
        self.assertEqual(show(pairs_of(((), "flag", 1))), (((), "flag", 1),))
        self.assertEqual(show(pairs_of(((), "value", 4))), (((), "value", (4,)),))
        for row in show(PAIRS):
            self.assertIs(type(row), tuple)

    def test_kinds_of_one_path_ascend(self):
        entries = [(("a",), "value", 1), (("a",), "flag", 1), (("a",), "element", 1), (("a",), "amount", 1)]
        expected = ((("a",), "amount", 1), (("a",), "element", (1,)), (("a",), "flag", 1), (("a",), "value", (1,)))
        for order in itertools.permutations(entries):
            self.assertEqual(show(pairs_of(*order)), expected)

    def test_paths_ascend(self):
        paths = [(), ("a",), ("a", "a"), ("a", "a", "a"), ("a", "a", "a", "z"), ("a", "b"), ("a", "z", "a"), ("ab",),
                 ("b",), ("b", "a"), ("ba", "a"), ("z" * 12,)]
        source = random.Random(5)
        for _ in range(50):
            order = source.sample(paths, len(paths))
            rows = show(pairs_of(*[(path, "flag", 1) for path in order]))
            self.assertEqual(rows, tuple([(path, "flag", 1) for path in paths]))

    def test_the_path_goes_before_the_kind(self):
        rows = show(pairs_of((("b",), "amount", 1), (("a",), "value", 1), ((), "value", 1), (("a", "b"), "amount", 1)))
        self.assertEqual([row[:2] for row in rows],
                         [((), "value"), (("a",), "value"), (("a", "b"), "amount"), (("b",), "amount")])

    def test_pairs_in_any_order(self):
        for order in itertools.permutations(PAIRS):
            self.assertEqual(show(list(order)), ROWS)

    def test_any_pairs(self):
        source = random.Random(7)
        for _ in range(300):
            pairs = live(any_history(source, 15))
            source.shuffle(pairs)
            self.assertEqual(show(pairs), shown_of(pairs))

    def test_the_list_stays_as_it_was(self):
        pairs = PAIRS[::-1]
        self.assertEqual(show(pairs), ROWS)
        self.assertEqual(pairs, PAIRS[::-1])
        self.assertEqual(show(pairs), ROWS)

    def test_examples(self):
        pairs = [((1, 1), (("size",), "value", 40)), ((0, 2), ((), "flag", 1)), ((0, 1), (("size",), "value", 42))]
        self.assertEqual(show(pairs), (((), "flag", 1), (("size",), "value", (42, 40))))
        pairs = [((0, 1), ((), "element", "b")), ((0, 3), ((), "element", 12)), ((2, 1), ((), "element", "b"))]
        self.assertEqual(show(pairs), (((), "element", (12, "b")),))
        self.assertEqual(show([((0, 1), ((), "amount", 5)), ((1, 1), ((), "amount", -5))]), (((), "amount", 0),))

    def test_it_is_defined_in_its_file(self):
        self.assertEqual(show.__module__, show_file.__name__)


class ThirdItems(unittest.TestCase):
    def test_sums(self):
        self.assertEqual(one_row("amount", 5, -5), 0)
        self.assertEqual(one_row("amount", 0), 0)
        self.assertEqual(one_row("amount", -3, -4, 2), -5)
        self.assertEqual(one_row("amount", 5, 5, 5), 15)
        self.assertEqual(one_row("amount", LIMIT, -LIMIT, -LIMIT), -LIMIT)

    def test_elements(self):
        self.assertEqual(one_row("element", "b", "b", "b"), ("b",))
        self.assertEqual(one_row("element", 10, 9, -1, 10, 9, 100), (-1, 9, 10, 100))
        self.assertEqual(one_row("element", "b", "B", "", "10", "9", " ", "ab", "a"), ("", " ", "10", "9", "B", "a", "ab", "b"))
        self.assertEqual(one_row("element", "5", 5, "a", -7, "", 5, "5"), (-7, 5, "", "5", "a"))

    def test_flags(self):
        self.assertEqual(one_row("flag", 1), 1)
        self.assertEqual(one_row("flag", 1, 1, 1), 1)

    def test_values(self):
        self.assertEqual(one_row("value", "b", "a", 3, 2, "b"), ("b", "a", 3, 2, "b"))
        self.assertEqual(one_row("value", 7, 7, 7), (7, 7, 7))
        pairs = [((client, number), ((), "value", 100 * client + number)) for client in (2, 10, 1) for number in (9, 10)]
        expected = (((), "value", (109, 110, 209, 210, 1009, 1010)),)
        for order in itertools.permutations(pairs):
            self.assertEqual(show(list(order)), expected)

    def test_items_of_other_paths_and_kinds_do_not_count(self):
        rows = show(pairs_of((("a",), "amount", 1), (("b",), "amount", 2), (("a",), "value", 3), (("a",), "element", 4),
                             (("a", "b"), "amount", 5), (("a",), "amount", 6)))
        self.assertEqual(rows, ((("a",), "amount", 7), (("a",), "element", (4,)), (("a",), "value", (3,)),
                                (("a", "b"), "amount", 5), (("b",), "amount", 2)))
