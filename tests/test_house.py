"""Houses: how they are made and started, stores, fetches, seals, falling and forgetting (points 5.2 to 5.9)."""

import copy
import itertools
import random
import unittest

from houses import ELSEWHERE, EMPTY, FIRST, GREAT, GREATER, LIMIT, SECOND, TERMS, THIRD
from houses import house_at, kept_by, state, store, told
from models import any_history
from ringheld import house as house_file
from ringheld.history import kept
from ringheld.house import House
from ringheld.keep import Keep, empty_keep
from ringheld.quorum import Terms
from ringheld.ring import Ring

CLIENT = ("client", 3)
OTHER = ("house", 1)


class AsItIsMade(unittest.TestCase):
    def test_a_new_house(self):
        for number in (0, 5, LIMIT):
            house = House(number, TERMS)
            self.assertEqual(house.number, number)
            self.assertIs(house.terms, TERMS)
            self.assertEqual(house.floor, -1)
            self.assertIsNone(house.view)
            self.assertEqual(house.opened, [])
            self.assertIs(house.sealed, False)
            self.assertEqual(house.kept_keys(), [])
            for view in (-1, 0, 1, 2, LIMIT):
                self.assertIs(house.serves(view), False)
            for key in ("a", "shoes", " ", "x" * 20):
                self.assertIsInstance(house.keep(key), Keep)
                self.assertEqual(house.keep(key).value(), EMPTY)
            self.assertEqual(house.kept_keys(), [])
            self.assertEqual(house.news(), ("news", ()))

    def test_start(self):
        house = House(5, TERMS)
        self.assertIsNone(house.start())
        self.assertEqual(state(house), (5, TERMS, -1, 0, [0], False, [0], {}))
        self.assertIs(house.serves(0), True)
        self.assertIs(house.serves(1), False)
        self.assertIs(house.serves(-1), False)

    def test_lists_that_are_returned_are_new(self):
        house = house_at(0, 1, 4)
        store(house, "lamp", FIRST)
        before = state(house)
        house.opened.append(9)
        house.opened.clear()
        house.kept_keys().append("door")
        house.kept_keys().clear()
        house.handle(CLIENT, ("fetch", 4, 1, "lamp")).clear()
        self.assertEqual(state(house), before)
        opened = house.opened
        house.begin(7, ELSEWHERE, ELSEWHERE)
        self.assertEqual((opened, house.opened), ([0, 1, 4], [0, 1, 4, 7]))

    def test_properties_cannot_be_set(self):
        house = house_at(0)
        for name in ("view", "opened", "sealed"):
            with self.assertRaises(AttributeError):
                setattr(house, name, 1)
        self.assertEqual(state(house), state(house_at(0)))

    def test_two_houses(self):
        one, other = house_at(0), house_at(0)
        store(one, "lamp", FIRST)
        store(other, "shoes", SECOND)
        one.handle(OTHER, ("seal", 0))
        self.assertEqual((kept_by(one), one.sealed), ({"lamp": FIRST.value()}, True))
        self.assertEqual((kept_by(other), other.sealed), ({"shoes": SECOND.value()}, False))
        one.forget(3)
        self.assertEqual((kept_by(other), other.floor, other.opened), ({"shoes": SECOND.value()}, -1, [0]))

    def test_examples(self):
        house = House(2, Terms(1, 1, 1))
        house.start()
        self.assertEqual(house.handle(("client", 0), ("fetch", 0, 7, "shoes")),
                         [(("client", 0), ("fetched", 0, 7, ((), ())))])
        self.assertEqual(house.handle(("house", 1), ("seal", 0)), [(("house", 1), ("sealed", 0, ()))])
        self.assertEqual(house.handle(("client", 0), ("fetch", 0, 8, "shoes")), [(("client", 0), ("refused", 0, 8))])

    def test_the_interface_stands_in_the_file_and_in_the_class(self):
        self.assertEqual(House.__module__, house_file.__name__)
        for name in ("serves", "keep", "kept_keys", "start", "forget", "fall", "begin", "handle", "news"):
            self.assertIn(name, vars(House))
        for name in ("view", "opened", "sealed"):
            self.assertIsInstance(vars(House)[name], property)


class StoresAndFetches(unittest.TestCase):
    def test_a_store(self):
        house = house_at(0)
        for number, client in enumerate([0, 3, 0, LIMIT], 1):
            sender = ("client", client)
            self.assertEqual(house.handle(sender, ("store", 0, number, "lamp", FIRST.value())),
                             [(sender, ("stored", 0, number))])
        self.assertEqual(kept_by(house), {"lamp": FIRST.value()})

    def test_a_fetch(self):
        house = house_at(0)
        store(house, "lamp", FIRST)
        before = state(house)
        for ticket, key, expected in [(7, "lamp", FIRST.value()), (LIMIT, "shoes", EMPTY), (1, "Lamp", EMPTY)]:
            self.assertEqual(house.handle(CLIENT, ("fetch", 0, ticket, key)), [(CLIENT, ("fetched", 0, ticket, expected))])
        self.assertEqual(state(house), before)

    def refused_in(self, house, views):
        """Check that the house refuses stores and fetches of these views, and stays as it was."""
        before = state(house)
        for view in views:
            self.assertEqual(house.handle(CLIENT, ("store", view, 8, "lamp", THIRD.value())), [(CLIENT, ("refused", view, 8))])
            self.assertEqual(house.handle(CLIENT, ("fetch", view, 9, "lamp")), [(CLIENT, ("refused", view, 9))])
        self.assertEqual(state(house), before)

    def served_in(self, house, view):
        self.assertEqual(house.handle(CLIENT, ("store", view, 8, "lamp", SECOND.value())), [(CLIENT, ("stored", view, 8))])
        self.assertEqual(house.handle(CLIENT, ("fetch", view, 9, "lamp")),
                         [(CLIENT, ("fetched", view, 9, house.keep("lamp").value()))])

    def test_other_views(self):
        for views in [(0,), (0, 1), (2, 3, 6), (0, 4)]:
            house = house_at(*views)
            store(house, "lamp", FIRST)
            self.refused_in(house, [view for view in [*range(9), LIMIT] if view != views[-1]])
            self.served_in(house, views[-1])

    def test_a_house_that_has_opened_nothing(self):
        self.refused_in(House(5, TERMS), [0, 1, 2, LIMIT])

    def test_a_house_that_has_sealed_its_view(self):
        for views in [(0,), (0, 1), (3,)]:
            house = house_at(*views)
            store(house, "lamp", FIRST)
            house.handle(OTHER, ("seal", views[-1]))
            self.refused_in(house, range(6))

    def test_a_house_that_has_forgotten(self):
        for floor in (0, 1, 4):
            house = house_at(0, 1)
            store(house, "lamp", FIRST)
            house.forget(floor)
            self.refused_in(house, range(6))
            house.begin(floor + 1, ELSEWHERE, ELSEWHERE)
            self.served_in(house, floor + 1)

    def test_a_house_that_has_sealed_serves_the_next_view(self):
        house = house_at(0)
        house.handle(OTHER, ("seal", 0))
        house.begin(1, ELSEWHERE, ELSEWHERE)
        self.served_in(house, 1)
        self.refused_in(house, [0, 2])

    def test_the_empty_kept_form_is_kept_from_then_on(self):
        house = house_at(0)
        store(house, "lamp", empty_keep())
        self.assertEqual(kept_by(house), {"lamp": EMPTY})
        store(house, "door", empty_keep())
        store(house, "door", FIRST)
        store(house, "door", empty_keep())
        self.assertEqual(kept_by(house), {"door": FIRST.value(), "lamp": EMPTY})
        self.assertEqual(house.kept_keys(), ["door", "lamp"])

    def test_a_fetch_keeps_nothing(self):
        house = house_at(0)
        house.handle(CLIENT, ("fetch", 0, 1, "lamp"))
        house.keep("door")
        self.assertEqual(house.kept_keys(), [])

    def test_joins_of_several_stores(self):
        for keeps in itertools.permutations([FIRST, SECOND, THIRD, FIRST]):
            house, expected = house_at(0), empty_keep()
            for keep in keeps:
                store(house, "lamp", keep)
                expected = expected | keep
                self.assertEqual(house.keep("lamp").value(), expected.value())

    def test_any_stores(self):
        source = random.Random(57)
        for _ in range(30):
            house, deeds = house_at(0), {}
            for _ in range(12):
                key = source.choice(["a", "b", "A"])
                history = source.sample(deeds.get(key, []), len(deeds.get(key, [])) // 2)
                history = history + [deed for deed in any_history(source, 4)
                                     if deed[0] not in [own[0] for own in deeds.get(key, [])]]
                store(house, key, kept(history))
                deeds[key] = deeds.get(key, []) + [deed for deed in history if deed not in deeds.get(key, [])]
                self.assertEqual(kept_by(house), {name: kept(deeds[name]).value() for name in deeds})

    def test_great_clocks(self):
        house = house_at(0)
        store(house, "lamp", GREAT)
        self.assertEqual(house.handle(CLIENT, ("fetch", 0, 4, "lamp")), [(CLIENT, ("fetched", 0, 4, GREAT.value()))])
        store(house, "lamp", GREATER)
        expected = (GREATER.value()[0], ((0, LIMIT, ()), (1, LIMIT, ()), (LIMIT, LIMIT - 1, ())))
        self.assertEqual(house.keep("lamp").value(), expected)
        self.assertEqual(house.news(), ("news", (("lamp", expected[1]),)))
        self.assertEqual(house.handle(OTHER, ("seal", 0)), [(OTHER, ("sealed", 0, (("lamp", expected),)))])

    def test_keys_that_are_much_alike(self):
        keys = ["a", "A", "a ", " a", "aa", "b", "lamp", "Lamp", "lamP", "lamp1", "x" * 20, "x" * 19, "x" * 19 + "y"]
        house, keeps = house_at(0), {}
        for number, key in enumerate(keys, 1):
            self.assertEqual(house.keep(key).value(), EMPTY)
            keeps[key] = kept([((0, number), ((), "value", number), ())])
            store(house, key, keeps[key])
        self.assertEqual(kept_by(house), {key: keeps[key].value() for key in keys})
        self.assertEqual(house.kept_keys(), sorted(keys))

    def test_what_is_passed_stays_as_it_was(self):
        body = ("store", 0, 1, "lamp", FIRST.value())
        before = copy.deepcopy(body)
        house = house_at(0)
        house.handle(CLIENT, body)
        house.handle(CLIENT, ("store", 0, 1, "lamp", SECOND.value()))
        self.assertEqual(body, before)


class Seals(unittest.TestCase):
    def test_a_view_that_was_not_opened(self):
        for house in [House(5, TERMS), house_at(0), house_at(0, 2, 5)]:
            before = state(house)
            for view in range(9):
                if view not in house.opened:
                    self.assertEqual(house.handle(OTHER, ("seal", view)), [])
                    self.assertEqual(state(house), before)

    def test_an_elder_view_is_told_and_not_sealed(self):
        house = house_at(0, 2, 5)
        store(house, "lamp", FIRST)
        before = state(house)
        for view in (0, 2):
            self.assertEqual(house.handle(OTHER, ("seal", view)), [(OTHER, ("sealed", view, told(lamp=FIRST)))])
            self.assertEqual(state(house), before)
        self.assertIs(house.serves(5), True)

    def test_the_last_view_is_sealed_and_stays_sealed(self):
        for views in [(0,), (0, 1), (0, 2, 5), (3,)]:
            house = house_at(*views)
            store(house, "lamp", FIRST)
            for sender in (OTHER, ("house", 8), OTHER, ("house", 5)):
                self.assertEqual(house.handle(sender, ("seal", views[-1])),
                                 [(sender, ("sealed", views[-1], told(lamp=FIRST)))])
                self.assertEqual((house.view, house.opened, house.sealed), (views[-1], list(views), True))
                self.assertIs(house.serves(views[-1]), False)
                self.assertEqual(kept_by(house), {"lamp": FIRST.value()})

    def test_an_elder_view_of_a_house_that_has_sealed_its_view(self):
        house = house_at(0, 1)
        house.handle(OTHER, ("seal", 1))
        before = state(house)
        self.assertEqual(house.handle(OTHER, ("seal", 0)), [(OTHER, ("sealed", 0, ()))])
        self.assertEqual(state(house), before)

    def test_all_that_is_kept_by_ascending_keys(self):
        house = house_at(0)
        keeps = {"lamp": FIRST, "Lamp": SECOND, "a": empty_keep(), "~": THIRD, " ": empty_keep(), "lamp 1": GREAT}
        for key in keeps:
            store(house, key, keeps[key])
        expected = tuple([(key, keeps[key].value()) for key in [" ", "Lamp", "a", "lamp", "lamp 1", "~"]])
        self.assertEqual(house.handle(OTHER, ("seal", 0)), [(OTHER, ("sealed", 0, expected))])

    def test_a_sealed_house_still_learns(self):
        house = house_at(0)
        house.handle(OTHER, ("seal", 0))
        house.handle(OTHER, ("told", told(lamp=FIRST)))
        self.assertEqual(house.handle(OTHER, ("seal", 0)), [(OTHER, ("sealed", 0, told(lamp=FIRST)))])

    def test_a_house_that_has_forgotten(self):
        house = house_at(0, 1, 2)
        house.forget(2)
        before = state(house)
        for view in range(5):
            self.assertEqual(house.handle(OTHER, ("seal", view)), [])
        self.assertEqual(state(house), before)


class FallingAndForgetting(unittest.TestCase):
    # House 5 comes to the ring, and needs two of the three other houses.
    NEW = Ring([(0, 0), (80, 1), (120, 5), (160, 2)], 3)

    def with_handover(self, *views):
        """Return a house that has begun to take over for the next view, and has heard one house."""
        house = house_at(*views)
        view = views[-1] + 1
        house.handle(("house", 9), ("told", told(lamp=FIRST)))
        house.begin(view, ELSEWHERE, self.NEW)
        house.handle(("house", 0), ("sealed", view - 1, told(shoes=SECOND)))
        return house, view

    def hears(self, house, view, *senders):
        """Let the house hear these houses, and return the views that it has opened then."""
        for sender in senders:
            self.assertEqual(house.handle(("house", sender), ("sealed", view - 1, told(door=THIRD))), [])
        return house.opened

    def test_the_handover_opens_the_view_if_nothing_happens(self):
        house, view = self.with_handover(0, 1)
        self.assertEqual(self.hears(house, view, 1), [0, 1, 2])
        self.assertEqual(kept_by(house), {"lamp": FIRST.value(), "shoes": SECOND.value(), "door": THIRD.value()})

    def test_a_fall_gives_up_the_handover_and_nothing_else(self):
        house, view = self.with_handover(0, 1)
        before = state(house)
        self.assertIsNone(house.fall())
        self.assertEqual(state(house), before)
        self.assertEqual(before, (5, TERMS, -1, 1, [0, 1], True, [], {"lamp": FIRST.value()}))
        self.assertEqual(self.hears(house, view, 0, 1, 2), [0, 1])
        self.assertEqual(state(house), before)

    def test_a_handover_that_begins_behind_a_fall_begins_anew(self):
        house, view = self.with_handover(0, 1)
        house.fall()
        house.begin(view, ELSEWHERE, self.NEW)
        self.assertEqual(self.hears(house, view, 1), [0, 1])
        self.assertEqual(self.hears(house, view, 2), [0, 1, 2])
        self.assertEqual(kept_by(house), {"lamp": FIRST.value(), "door": THIRD.value()})

    def test_a_fall_without_a_handover(self):
        for views in [(), (0,), (0, 3)]:
            house = house_at(*views)
            if views:
                store(house, "lamp", FIRST)
            before = state(house)
            for _ in range(2):
                self.assertIsNone(house.fall())
                self.assertEqual(state(house), before)
        house.handle(OTHER, ("seal", 3))
        before = state(house)
        house.fall()
        self.assertEqual(state(house), before)
        self.assertIs(house.sealed, True)

    def test_forgetting(self):
        for floor in (-1, 0, 1, 5, LIMIT):
            for views in [(), (0,), (0, 1, 3)]:
                house = house_at(*views)
                house.handle(OTHER, ("told", told(lamp=FIRST)))
                if views:
                    house.handle(OTHER, ("seal", views[-1]))
                self.assertIsNone(house.forget(floor))
                self.assertEqual(state(house), (5, TERMS, floor, None, [], False, [], {}))
                self.assertEqual(house.keep("lamp").value(), EMPTY)
                self.assertEqual(house.news(), ("news", ()))

    def test_forgetting_with_a_handover_under_way(self):
        house, view = self.with_handover(0, 1)
        house.forget(view)
        self.assertEqual(state(house), (5, TERMS, view, None, [], False, [], {}))
        self.assertEqual(self.hears(house, view, 0, 1, 2), [])
        self.assertEqual(state(house), (5, TERMS, view, None, [], False, [], {}))

    def test_begins_behind_a_forgetting(self):
        for floor in (0, 2, 6):
            house = house_at(0, 1)
            store(house, "lamp", FIRST)
            house.forget(floor)
            for view in range(1, floor + 1):
                self.assertEqual(house.begin(view, ELSEWHERE, ELSEWHERE), [])
                self.assertEqual(state(house), (5, TERMS, floor, None, [], False, [], {}))
            sent = house.begin(floor + 1, ELSEWHERE, ELSEWHERE)
            self.assertEqual(sent, [(("house", other), ("seal", floor)) for other in (0, 1, 2)])
            self.assertEqual(state(house), (5, TERMS, floor, floor + 1, [floor + 1], False, [floor + 1], {}))

    def test_forgetting_twice(self):
        house = house_at(0)
        house.forget(4)
        house.begin(5, ELSEWHERE, ELSEWHERE)
        store(house, "lamp", FIRST)
        house.forget(7)
        self.assertEqual(state(house), (5, TERMS, 7, None, [], False, [], {}))
        self.assertEqual(house.begin(7, ELSEWHERE, ELSEWHERE), [])
        house.begin(8, ELSEWHERE, ELSEWHERE)
        self.assertEqual(house.opened, [8])
