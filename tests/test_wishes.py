"""Wishes, and the deeds that are made of them (points 3.1 to 3.4)."""

import copy
import itertools
import random
import unittest

from models import ITEMS, PATHS, all_wishes, any_history, entry_of, overtakes
from ringheld import wishes as wishes_file
from ringheld.clock import Clock
from ringheld.history import kept
from ringheld.keep import Keep, empty_keep, piece
from ringheld.wishes import is_wish, wish_deed
from things import TouchyInteger, TouchyString, TouchyTuple, nested, odd_things, shown

LIMIT = 10 ** 12
WITH_ITEM = ["put", "mark", "unmark"]
ALONE = ["raise", "lower", "clear"]
GOOD_PATHS = [(), ("a",), ("cart", "size"), ("a", "b", "c"), ("a", "b", "c", "d"), ("x" * 12,), ("z", "a" * 12)]
BAD_NAMES = ["", "A", "aB", "a1", "a b", " ", "x" * 13, "a\n", "{", 0, None, True, ("a",), ["a"], b"a"]
GOOD_ITEMS = [0, 5, -5, LIMIT, -LIMIT, "", "5", "a b~", "x" * 60]
BAD_ITEMS = [None, True, False, LIMIT + 1, -LIMIT - 1, 10 ** 30, "x" * 61, "a\n", "\n", "\t", "a%", (), (5,), [], [5],
             {}, 1.0, b"5"]


class WishesCase(unittest.TestCase):
    def holds(self, things):
        for thing in things:
            for _ in range(2):
                self.assertIs(is_wish(thing), True, shown(thing))

    def fails(self, things):
        for thing in things:
            for _ in range(2):
                self.assertIs(is_wish(thing), False, shown(thing))


class IsWish(WishesCase):
    def test_words_with_each_path_and_item(self):
        for path in GOOD_PATHS:
            self.holds([(word, path, item) for word in WITH_ITEM for item in GOOD_ITEMS])
            self.holds([("add", path, integer) for integer in (0, 5, -5, LIMIT, -LIMIT)])
            self.holds([(word, path) for word in ALONE])

    def test_items_that_are_none(self):
        for path in GOOD_PATHS:
            self.fails([(word, path, item) for word in WITH_ITEM + ["add"] for item in BAD_ITEMS + odd_things()])
            self.fails([("add", path, text) for text in ("", "5", "-5", "x" * 60)])

    def test_too_short_and_too_long(self):
        self.fails([(), ("put",), ("raise",), ((),), ("clear",), ("add", 5), ("put", "a")])
        for path in GOOD_PATHS:
            self.fails([(word, path) for word in WITH_ITEM + ["add"]])
            self.fails([(word, path, 1, extra) for word in WITH_ITEM + ["add"] for extra in (1, None, "a", ())])
            self.fails([(word, path, extra) for word in ALONE for extra in (1, 0, None, "a", (), path, True)])
            self.fails([(word, path, 1, 1) for word in ALONE])
            self.fails([(path, "raise"), (path,), ("raise", path, path), (path, "put", 1)])

    def test_other_words(self):
        words = ["", "Put", "PUT", "ADD", "Mark", "UNMARK", "Raise", "Lower", "CLEAR", "puts", "pu", " put", "put ",
                 "put\n", "value", "amount", "element", "flag", "un", "remove", "set", "delete", "lift"]
        others = [0, 1, None, True, ("put",), ["put"], b"put", (), TouchyString("put"), TouchyString("raise")]
        for word in words + others + odd_things():
            self.fails([(word, ("a",)), (word, ("a",), 1), (word, ()), (word, (), "a")])

    def test_paths_that_are_none(self):
        paths = [("a",) * 5, [], ["a"], ["a", "b"], "", "a", "abc", None, 0, 1, True, {}, {"a": 1}, {"a"}, (("a",),)]
        paths += [path for name in BAD_NAMES for path in [(name,), (name, "a"), ("a", name), ("a", name, "b"),
                                                          ("a", "b", name, "d"), ("a", "b", "c", name)]]
        for path in paths + odd_things() + [TouchyTuple(("a",))]:
            self.fails([(word, path, 1) for word in WITH_ITEM + ["add"]] + [(word, path) for word in ALONE])

    def test_lists_in_the_place_of_tuples(self):
        self.fails([["put", (), 1], ["raise", ()], ["put", ["a"], 1], ("put", ["a"], 1), [("raise", ())], []])

    def test_any_other_object(self):
        keep = piece(((0, 1), ((), "flag", 1), ()))
        self.fails(odd_things() + ["put", "raise", 0, 1, Clock([(0, 1)]), keep, empty_keep(), ((), "flag", 1)])
        self.fails([TouchyTuple(("raise", ())), ("put", (), TouchyInteger(1)), ("put", (), TouchyString("a")),
                    ("raise", keep), ("put", (), keep), (keep, ()), ("put", (), Clock([]))])
        for kind in (tuple, list):
            deep = nested(kind, 58)
            self.fails([deep, ("put", deep, 1), ("put", (), deep), (deep, (), 1), ("raise", deep), (deep, ()),
                        ("put", (deep,), 1), ("raise", (deep,)), ("put", ("a", deep), 1), (deep,), (deep, deep, deep)])

    def test_what_is_passed_stays_as_it_was(self):
        things = [["put", ["b", "a"], 1], ("put", ["b", "a"], 1), ("mark", (), [2, 1]), {"b": 1}]
        before = copy.deepcopy(things)
        self.fails(things)
        self.assertEqual(things, before)

    def test_examples(self):
        self.holds([("add", ("stock",), -3)])
        self.fails([("raise", ("stock",), 1)])

    def test_each_is_defined_in_its_file(self):
        for function in (is_wish, wish_deed):
            self.assertEqual(function.__module__, wishes_file.__name__)


class Entries(unittest.TestCase):
    def test_each_word(self):
        for path in GOOD_PATHS:
            for item in GOOD_ITEMS:
                self.assertEqual(wish_deed(("put", path, item), empty_keep()), ((path, "value", item), ()))
                self.assertEqual(wish_deed(("mark", path, item), empty_keep()), ((path, "element", item), ()))
                self.assertEqual(wish_deed(("unmark", path, item), empty_keep()), (None, ()))
            for integer in (0, 5, -5, LIMIT, -LIMIT):
                self.assertEqual(wish_deed(("add", path, integer), empty_keep()), ((path, "amount", integer), ()))
            self.assertEqual(wish_deed(("raise", path), empty_keep()), ((path, "flag", 1), ()))
            self.assertEqual(wish_deed(("lower", path), empty_keep()), (None, ()))
            self.assertEqual(wish_deed(("clear", path), empty_keep()), (None, ()))

    def test_forms(self):
        for wish in all_wishes():
            deed = wish_deed(wish, empty_keep())
            self.assertIs(type(deed), tuple)
            self.assertEqual(len(deed), 2)
            self.assertIs(type(deed[1]), tuple)


class Overtaken(unittest.TestCase):
    def setUp(self):
        """Make a kept form with entries of all kinds, at paths that begin with each other and at others."""
        entries = [((), "value", "a"), (("a",), "value", 5), (("a",), "value", "5"), (("a",), "amount", 5),
                   (("a",), "element", 5), (("a",), "element", "5"), (("a",), "element", 5), (("a",), "flag", 1),
                   (("a",), "flag", 1), (("a", "b"), "value", 1), (("a", "b"), "element", 5), (("a", "b"), "flag", 1),
                   (("ab",), "value", 5), (("ab",), "element", 5), (("b", "a"), "flag", 1), ((), "flag", 1),
                   ((), "element", 5), (("a", "b", "c", "d"), "amount", 0)]
        self.pairs = [((at % 3, 20 - at), entry) for at, entry in enumerate(entries)]
        self.keep = Keep(self.pairs, Clock([dot for dot, _ in self.pairs] + [(0, 1), (9, 9)]))

    def check(self, wish, chosen):
        """Check that exactly the pairs at the chosen places are overtaken."""
        dots = tuple(sorted([self.pairs[at][0] for at in chosen]))
        before = self.keep.value()
        self.assertEqual(wish_deed(wish, self.keep)[1], dots, wish)
        self.assertEqual(self.keep.value(), before)

    def test_put(self):
        for item in (5, "5", "other"):
            self.check(("put", ("a",), item), [1, 2])
            self.check(("put", (), item), [0])
            self.check(("put", ("a", "b"), item), [9])
            self.check(("put", ("ab",), item), [12])
            self.check(("put", ("b",), item), [])
            self.check(("put", ("a", "b", "c", "d"), item), [])

    def test_add(self):
        for path in [(), ("a",), ("a", "b"), ("a", "b", "c", "d"), ("b",)]:
            for integer in (5, 0, -5):
                self.check(("add", path, integer), [])

    def test_mark_and_unmark(self):
        for word in ("mark", "unmark"):
            self.check((word, ("a",), 5), [4, 6])
            self.check((word, ("a",), "5"), [5])
            self.check((word, ("a",), 6), [])
            self.check((word, ("a",), ""), [])
            self.check((word, (), 5), [16])
            self.check((word, ("a", "b"), 5), [10])
            self.check((word, ("a", "b"), "5"), [])
            self.check((word, ("b", "a"), 5), [])

    def test_raise_and_lower(self):
        for word in ("raise", "lower"):
            self.check((word, ("a",)), [7, 8])
            self.check((word, ("a", "b")), [11])
            self.check((word, ("b", "a")), [14])
            self.check((word, ()), [15])
            self.check((word, ("ab",)), [])
            self.check((word, ("b",)), [])

    def test_clear(self):
        self.check(("clear", ()), range(18))
        self.check(("clear", ("a",)), [1, 2, 3, 4, 5, 6, 7, 8, 9, 10, 11, 17])
        self.check(("clear", ("a", "b")), [9, 10, 11, 17])
        self.check(("clear", ("a", "b", "c")), [17])
        self.check(("clear", ("a", "b", "c", "d")), [17])
        self.check(("clear", ("a", "b", "d")), [])
        self.check(("clear", ("ab",)), [12, 13])
        self.check(("clear", ("b",)), [14])
        self.check(("clear", ("a", "a")), [])
        self.check(("clear", ("c",)), [])

    def test_any_wish_over_any_kept_form(self):
        source = random.Random(33)
        for _ in range(60):
            keep = kept(any_history(source, 12))
            before = keep.value()
            for wish in all_wishes():
                over = tuple([dot for dot, entry in before[0] if overtakes(wish, entry)])
                self.assertEqual(wish_deed(wish, keep), (entry_of(wish), over))
            self.assertEqual(keep.value(), before)

    def test_only_pairs_are_overtaken(self):
        keep = Keep([], Clock.from_value(((0, LIMIT, ()), (1, 3, (5,)))))
        for wish in all_wishes():
            self.assertEqual(wish_deed(wish, keep), (entry_of(wish), ()))

    def test_dots_ascend(self):
        dots = [(client, number) for client in (10, 9, 2) for number in (11, 2, 1)]
        keep = Keep([(dot, ((), "flag", 1)) for dot in dots], Clock(dots))
        for wish in [("raise", ()), ("lower", ()), ("clear", ())]:
            self.assertEqual(wish_deed(wish, keep)[1], tuple(sorted(dots)))

    def test_kinds_at_one_path(self):
        for path, item in itertools.product(PATHS, ITEMS):
            pairs = [((0, 1), (path, "amount", 1)), ((0, 2), (path, "element", item)), ((0, 3), (path, "flag", 1)),
                     ((0, 4), (path, "value", item))]
            keep = Keep(pairs, Clock([(0, 4), (0, 3), (0, 2), (0, 1)]))
            self.assertEqual(wish_deed(("put", path, item), keep)[1], ((0, 4),))
            self.assertEqual(wish_deed(("mark", path, item), keep)[1], ((0, 2),))
            self.assertEqual(wish_deed(("unmark", path, item), keep)[1], ((0, 2),))
            self.assertEqual(wish_deed(("raise", path), keep)[1], ((0, 3),))
            self.assertEqual(wish_deed(("lower", path), keep)[1], ((0, 3),))
            self.assertEqual(wish_deed(("add", path, 1), keep)[1], ())
            self.assertEqual(wish_deed(("clear", path), keep)[1], ((0, 1), (0, 2), (0, 3), (0, 4)))

    def test_examples(self):
        keep = piece(((0, 1), (("size",), "value", 42), ()))
        self.assertEqual(wish_deed(("put", ("size",), "large"), keep), ((("size",), "value", "large"), ((0, 1),)))
        self.assertEqual(wish_deed(("clear", ()), keep), (None, ((0, 1),)))
        self.assertEqual(wish_deed(("mark", ("size",), 42), keep), ((("size",), "element", 42), ()))
