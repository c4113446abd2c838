"""Integers, texts, names, paths, keys, dots, entries and deeds (points 1.1 to 1.6)."""

import copy
import unittest

from ringheld import values
from ringheld.clock import Clock
from ringheld.values import (is_deed, is_dot, is_entry, is_integer, is_item, is_key, is_number, is_path,
                             is_text)
from things import Touchy, TouchyInteger, TouchyString, TouchyTuple, nested, odd_things, shown

LIMIT = 10 ** 12
FUNCTIONS = [is_integer, is_number, is_text, is_item, is_path, is_key, is_dot, is_entry, is_deed]
TEXT_SIGNS = [chr(code) for code in range(32, 127) if chr(code) != "%"]
OTHER_SIGNS = ["%", "\n", "\t", "\r", "\0", "\x1f", "\x7f", "\x80", "\xa0", "\u00e9", "\u2028", "\U0001f600", "\ud800"]


class ValuesCase(unittest.TestCase):
    def holds(self, function, things):
        for thing in things:
            self.assertIs(function(thing), True, (function.__name__, shown(thing)))

    def fails(self, function, things):
        for thing in things:
            self.assertIs(function(thing), False, (function.__name__, shown(thing)))


class AnyObject(ValuesCase):
    def test_a_bool_and_no_error_for_any_object(self):
        for function in FUNCTIONS:
            for thing in odd_things():
                self.assertIn(repr(function(thing)), ("True", "False"))
                for part in [(thing,), (thing, thing), (0, thing), (thing, 1), (thing, thing, thing)]:
                    self.assertIn(repr(function(part)), ("True", "False"))

    def test_odd_things_are_none_of_it(self):
        for function in FUNCTIONS:
            self.fails(function, odd_things())

    def test_nested_things(self):
        for kind in (tuple, list):
            deep = nested(kind, 60)
            for function in FUNCTIONS:
                self.fails(function, [deep, (0, deep), (deep, 1), ((0, 1), None, deep), ((), "value", deep)])

    def test_what_is_passed_stays_as_it_was(self):
        things = [[(0, 1), None, []], [3, 1, 2], ["b", "a"], [[], "value", 1], {"b": [1], "a": [2]},
                  ((0, 1), None, [(0, 3), (0, 2), (0, 2)]), (["b", "a"], "value", 1), ((), "value", [2, 1])]
        before = copy.deepcopy(things)
        for function in FUNCTIONS:
            self.fails(function, things)
            self.assertEqual(things, before)

    def test_each_is_defined_in_its_file(self):
        for function in FUNCTIONS:
            self.assertEqual(function.__module__, values.__name__)


class Numbers(ValuesCase):
    def test_integers(self):
        self.holds(is_integer, [0, 1, -1, 7, LIMIT, LIMIT - 1, -LIMIT, 1 - LIMIT])
        self.fails(is_integer, [LIMIT + 1, -LIMIT - 1, 10 ** 30, -10 ** 30, True, False, None])
        self.fails(is_integer, ["0", "", "1", (), (1,), [], [1], 0.0, 1.0, {}, {1}, b"1"])

    def test_numbers(self):
        self.holds(is_number, [0, 1, 7, LIMIT - 1, LIMIT])
        self.fails(is_number, [-1, -LIMIT, -LIMIT - 1, LIMIT + 1, True, False, None])
        self.fails(is_number, ["0", "", "1", (), (1,), [], [1], 0.0, 1.0, {}, {1}, b"1"])


class Texts(ValuesCase):
    def test_texts(self):
        self.holds(is_text, ["", " ", "~", "a", "Z9", "x" * 59, "x" * 60, " " * 60, "~" * 60] + TEXT_SIGNS)
        self.fails(is_text, ["x" * 61, " " * 61, "x" * 1000, 5, 0, True, None, (), ("a",), ["a"], b"a", {}])

    def test_signs_that_no_text_has(self):
        for sign in OTHER_SIGNS:
            for thing in [sign, sign + "ab", "a" + sign + "b", "ab" + sign, "x" * 59 + sign]:
                self.fails(is_text, [thing])
                self.fails(is_item, [thing])
                self.fails(is_key, [thing[-20:]])

    def test_items(self):
        self.holds(is_item, ["", "5", "x" * 60, 5, 0, -1, LIMIT, -LIMIT])
        self.fails(is_item, ["x" * 61, "a\n", LIMIT + 1, -LIMIT - 1, True, False, None, (), (5,), [5], 1.0, b"5"])


class PathsAndKeys(ValuesCase):
    def test_paths(self):
        self.holds(is_path, [(), ("a",), ("a", "b"), ("cart", "size", "a"), ("a", "a", "a", "a")])
        self.holds(is_path, [("x" * 12,), ("a", "z" * 12), ("az", "a", "z", "y" * 12)])
        self.fails(is_path, [("a", "b", "c", "d", "e"), ("a",) * 1000])

    def test_names(self):
        names = ["", "x" * 13, "A", "aB", "Ba", "bAb", "a1", "1a", "a1a", " ", "a ", " a", "a b", "a-b", "a_b",
                 "a\n", "\na", "`", "{", "a{", "`a", "\u00e9", "a\u00e9b", "\u0430", "\ud800"]
        names = names + [5, 0, True, None, (), ("a",), ["a"], b"a", Touchy(), TouchyString("a")]
        for name in names:
            self.fails(is_path, [(name,), (name, "a"), ("a", name), ("a", name, "b"), ("a", "b", "c", name)])

    def test_lists_and_strings_are_no_paths(self):
        self.fails(is_path, [[], ["a"], ["a", "b"], "", "a", "ab", {}, {"a": 1}, {"a"}, None, 0, b"ab"])

    def test_keys(self):
        self.holds(is_key, ["a", " ", "~", "x" * 19, "x" * 20, "A key: 1", " " * 20] + TEXT_SIGNS)
        self.fails(is_key, ["", "x" * 21, "x" * 60, "a\n", "\na", "a\nb", "\n", "\t", "a%", "x" * 19 + "\n"])
        self.fails(is_key, [5, True, None, ("a",), ["a"], b"a"])


class Dots(ValuesCase):
    def test_dots(self):
        self.holds(is_dot, [(0, 1), (3, 5), (1, 1), (LIMIT, 1), (0, LIMIT), (LIMIT, LIMIT)])
        self.fails(is_dot, [(0, 0), (1, 0), (0, -1), (-1, 1), (-1, -1), (LIMIT + 1, 1), (0, LIMIT + 1)])

    def test_parts_of_another_kind(self):
        for part in odd_things() + ["1", "", 10 ** 13, (), (1,)]:
            self.fails(is_dot, [(part, 1), (0, part)])
        self.fails(is_dot, [(True, 1), (0, True), (False, 1), (True, True)])

    def test_other_forms(self):
        self.fails(is_dot, [(), (0,), (1,), (0, 1, 2), (1, 1, 1, 1), [0, 1], [1, 1], "01", {0: 1}, {0, 1}, None, 5])
        self.fails(is_dot, [((0, 1),), ((0, 1), 1), (0, (1,)), TouchyTuple((0, 1)), (TouchyInteger(0), 1)])


class Entries(ValuesCase):
    def test_items_of_each_kind(self):
        integers = [0, 1, 5, -3, LIMIT, -LIMIT]
        texts = ["", "a", "1", "5", "x" * 60]
        others = ["x" * 61, "a\n", LIMIT + 1, -LIMIT - 1, True, False, None, (), (1,), [1], 1.0, b"1"]
        for path in [(), ("cart",), ("cart", "size"), ("a", "b", "c", "d")]:
            self.holds(is_entry, [(path, kind, item) for kind in ("value", "element") for item in integers + texts])
            self.holds(is_entry, [(path, "amount", item) for item in integers])
            self.holds(is_entry, [(path, "flag", 1)])
            self.fails(is_entry, [(path, kind, item) for kind in ("value", "element") for item in others])
            self.fails(is_entry, [(path, "amount", item) for item in texts + others])
            self.fails(is_entry, [(path, "flag", item) for item in [0, 2, -1] + texts + others])

    def test_kinds(self):
        kinds = ["", "Value", "values", "amounts", "set", "flags", "counter", " value", "value\n", "val", "v"]
        kinds = kinds + odd_things() + [1, ("value",), ["value"], TouchyString("value")]
        for kind in kinds:
            self.fails(is_entry, [((), kind, item) for item in (1, "a", None)])

    def test_paths(self):
        paths = [["cart"], "cart", "", None, 0, ("A",), ("",), ("a",) * 5, ("a", 1), (("a",),), {}, True]
        for path in paths + odd_things():
            self.fails(is_entry, [(path, kind, 1) for kind in ("value", "amount", "element", "flag")])

    def test_other_forms(self):
        self.fails(is_entry, [(), ((),), ((), "flag"), ("flag", 1), ((), "flag", 1, 1), ((), "value", 1, 2)])
        self.fails(is_entry, [[(), "flag", 1], [("a",), "value", "b"], None, 5, "flag", {}])
        self.fails(is_entry, [("flag", (), 1), ((), 1, "flag"), TouchyTuple(((), "flag", 1))])

    def test_examples(self):
        self.holds(is_entry, [(("cart", "size"), "amount", -3)])
        self.fails(is_entry, [(("cart",), "amount", "3")])


class Deeds(ValuesCase):
    entry = (("a",), "value", "b")

    def test_entries(self):
        for over in [(), ((0, 1),)]:
            self.holds(is_deed, [((0, 4), entry, over) for entry in (None, self.entry, ((), "flag", 1))])
            entries = odd_things()[1:] + [0, "", (), ((), "flag", 2), ((), "amount", "1"), list(self.entry)]
            self.fails(is_deed, [((0, 4), entry, over) for entry in entries])

    def test_own_dots(self):
        for dot in odd_things() + [(0, 0), (-1, 1), (0, LIMIT + 1), (True, 1), (0, True), (0,), (0, 1, 2), [0, 1]]:
            self.fails(is_deed, [(dot, None, ()), (dot, self.entry, ((5, 5),))])

    def test_over_that_ascends(self):
        overs = [(), ((0, 1),), ((0, 1), (0, 2)), ((0, 1), (0, 3), (1, 1)), ((0, 9), (1, 1)), ((0, 2), (1, 1), (1, 2)),
                 ((0, LIMIT), (LIMIT, 1), (LIMIT, LIMIT))]
        for over in overs:
            self.holds(is_deed, [((1, 7), None, over), ((1, 7), self.entry, over)])

    def test_over_that_does_not_ascend(self):
        overs = [((0, 1), (0, 1)), ((0, 1), (1, 1), (1, 1)), ((0, 1), (1, 1), (0, 1)), ((1, 1), (0, 1)),
                 ((0, 2), (0, 1)), ((0, 1), (1, 2), (1, 1)), ((1, 1), (0, 9)), ((0, 1), (2, 1), (1, 1), (3, 1))]
        for over in overs:
            self.fails(is_deed, [((1, 7), None, over), ((1, 7), self.entry, over)])

    def test_over_with_the_own_dot(self):
        for dot in [(0, 1), (0, 2), (1, 1), (2, 5)]:
            self.fails(is_deed, [(dot, entry, ((0, 1), (0, 2), (1, 1), (2, 5))) for entry in (None, self.entry)])
        self.fails(is_deed, [((0, 1), None, ((0, 1),))])
        self.holds(is_deed, [((1, 2), None, ((0, 1), (0, 2), (1, 1), (2, 5)))])

    def test_over_with_a_part_that_is_no_dot(self):
        parts = [(0, 0), (1, 0), (-1, 1), (1, LIMIT + 1), (1, True), (True, 1), (1,), (1, 2, 3), [1, 1]]
        for part in odd_things() + parts:
            overs = [(part,), (part, (0, 1)), ((0, 1), part), ((0, 1), part, (2, 1))]
            self.fails(is_deed, [((5, 5), None, over) for over in overs])

    def test_over_of_another_kind(self):
        overs = [[], [(0, 1)], [(0, 1), (0, 2)], {}, {(0, 1): 1}, {(0, 1)}, None, 0, "", True, (0, 1), Clock([]),
                 Clock([(0, 1)]), TouchyTuple(()), TouchyTuple([(0, 1)])]
        self.fails(is_deed, [((5, 5), None, over) for over in overs])

    def test_over_of_many_dots(self):
        over = tuple([(client, number) for client in range(4) for number in range(1, 201)])
        self.holds(is_deed, [((5, 1), self.entry, over), ((2, 201), None, over), ((1, 201), None, over)])
        self.fails(is_deed, [((2, 100), None, over), ((0, 1), None, over), ((3, 200), None, over)])
        self.fails(is_deed, [((5, 1), None, over + ((3, 200),)), ((5, 1), None, over + ((0, 201),))])
        self.fails(is_deed, [((5, 1), None, over[:400] + over[401:399:-1] + over[402:]), ((5, 1), None, list(over))])

    def test_other_forms(self):
        self.fails(is_deed, [(), ((0, 4),), ((0, 4), None), ((0, 4), ()), ((0, 4), None, (), ()), (None, (0, 4), ())])
        self.fails(is_deed, [[(0, 4), None, ()], [(0, 4), self.entry, ((0, 1),)], {}, None, 5, "deed"])
        self.fails(is_deed, [TouchyTuple(((0, 4), None, ()))])

    def test_examples(self):
        self.holds(is_deed, [((0, 4), None, ((0, 2), (1, 1)))])
        self.fails(is_deed, [((0, 4), None, ((0, 2), (0, 4)))])
