"""News that houses exchange (point 5.11)."""

import copy
import random
import unittest

from houses import EMPTY, FIRST, GREAT, GREATER, LIMIT, SECOND, TERMS, THIRD, house_at, kept_by, state, store, told
from models import any_history
from ringheld.clock import Clock
from ringheld.history import kept
from ringheld.house import House
from ringheld.keep import Keep, empty_keep

OTHER = ("house", 1)


def house_with(**keeps):
    """Return a house that keeps these kept forms and has opened nothing."""
    house = House(5, TERMS)
    for key in keeps:
        house.handle(OTHER, ("told", told(**{key: keeps[key]})))
    return house


def clocks_of(**keeps):
    return tuple([(key, keeps[key].clock.value()) for key in sorted(keeps)])


class News(unittest.TestCase):
    def answers(self, house, clocks, expected):
        """Check what the house tells a house that has these clocks; it stays as it was."""
        before = state(house)
        for sender in (OTHER, ("house", 5), ("house", LIMIT)):
            self.assertEqual(house.handle(sender, ("news", clocks)), [(sender, ("told", expected))])
        self.assertEqual(state(house), before)

    def test_news_of_a_house(self):
        self.assertEqual(House(5, TERMS).news(), ("news", ()))
        house = house_with(shoes=SECOND, lamp=FIRST, Lamp=empty_keep(), door=GREAT)
        expected = (("Lamp", ()), ("door", GREAT.clock.value()), ("lamp", ((0, 1, ()),)), ("shoes", ((0, 1, ()), (1, 1, ()))))
        self.assertEqual(house.news(), ("news", expected))

    def test_nothing_is_kept(self):
        self.answers(House(5, TERMS), (), ())
        self.answers(House(5, TERMS), clocks_of(lamp=FIRST), ())
        self.answers(house_at(0, 1), (), ())

    def test_keys_for_which_no_clock_is_told(self):
        house = house_with(shoes=SECOND, lamp=FIRST, Lamp=THIRD)
        self.answers(house, (), told(Lamp=THIRD, lamp=FIRST, shoes=SECOND))
        self.answers(house, clocks_of(shoes=SECOND), told(Lamp=THIRD, lamp=FIRST))
        self.answers(house, clocks_of(shoes=SECOND, lamp=SECOND, Lamp=THIRD), ())

    def test_clocks_for_keys_that_are_not_kept(self):
        house = house_with(lamp=FIRST)
        self.answers(house, clocks_of(door=SECOND, Lamp=FIRST, lam=FIRST), told(lamp=FIRST))
        self.answers(house, clocks_of(door=SECOND, lamp=FIRST), ())
        self.assertEqual(house.kept_keys(), ["lamp"])

    def test_clocks_that_cover_and_that_do_not(self):
        house = house_with(lamp=SECOND)
        for dots, covers in [([(0, 1), (1, 1)], True), ([(0, 1), (1, 1), (1, 2), (4, 7)], True), ([(1, 1)], False), ([], False),
                             ([(0, 1)], False), ([(0, 2), (1, 1)], False), ([(0, 1), (1, 2)], False)]:
            self.answers(house, (("lamp", Clock(dots).value()),), () if covers else told(lamp=SECOND))

    def test_an_empty_kept_form_is_covered_by_the_empty_clock(self):
        house = house_with(lamp=empty_keep(), shoes=FIRST)
        self.answers(house, (), told(shoes=FIRST))
        self.answers(house, (("lamp", ()), ("shoes", ())), told(shoes=FIRST))
        self.answers(house, clocks_of(lamp=FIRST, shoes=FIRST), ())

    def test_only_the_clocks_count(self):
        # The deed (0, 1) is only overtaken here: the clock has the dot, and there is no pair.
        house = house_with(lamp=kept([((0, 2), None, ((0, 1),))]))
        self.answers(house, (("lamp", ((0, 2, ()),)),), ())

    def test_great_clocks(self):
        house = house_with(lamp=GREAT, shoes=GREATER)
        self.answers(house, clocks_of(lamp=GREATER, shoes=GREATER), told(lamp=GREAT))
        self.answers(house, clocks_of(lamp=GREAT | GREATER, shoes=GREAT), told(shoes=GREATER))
        self.answers(house, clocks_of(lamp=GREAT, shoes=GREATER), ())

    def test_in_any_view(self):
        for house in (House(5, TERMS), house_at(0), house_at(0, 4)):
            house.handle(OTHER, ("told", told(lamp=FIRST)))
            if house.opened:
                house.handle(OTHER, ("seal", house.view))
            self.answers(house, (), told(lamp=FIRST))

    def test_any_clocks(self):
        source = random.Random(511)
        for _ in range(60):
            keys = source.sample("abcdefAB", source.randint(0, 6))
            keeps = {key: kept(any_history(source, 4)) for key in keys}
            house = house_with(**keeps)
            clocks = {key: kept(any_history(source, 8)).clock | (keeps[key].clock if source.random() < 0.5 and key in keeps
                                                               else Clock([]))
                      for key in source.sample("abcdefAB", source.randint(0, 6))}
            dots = [(client, number) for client in range(3) for number in range(1, 8)]
            expected = {key: keeps[key] for key in keeps
                        if any(dot in keeps[key].clock and dot not in clocks.get(key, Clock([])) for dot in dots)}
            pairs = [(key, clocks[key].value()) for key in clocks]
            self.answers(house, tuple(pairs), told(**expected))


class Told(unittest.TestCase):
    def test_it_is_joined_and_answered_by_nothing(self):
        for views in [(), (0,), (0, 3)]:
            house = house_at(*views)
            self.assertEqual(house.handle(OTHER, ("told", ())), [])
            self.assertEqual(kept_by(house), {})
            self.assertEqual(house.handle(OTHER, ("told", told(lamp=FIRST, shoes=THIRD))), [])
            self.assertEqual(kept_by(house), {"lamp": FIRST.value(), "shoes": THIRD.value()})
            self.assertEqual(house.handle(OTHER, ("told", told(lamp=SECOND, door=THIRD))), [])
            self.assertEqual(kept_by(house), {"door": THIRD.value(), "lamp": (FIRST | SECOND).value(), "shoes": THIRD.value()})
            self.assertEqual((house.opened, house.sealed, house.floor), (list(views), False, -1))

    def test_a_key_that_stands_in_it_twice(self):
        house = House(5, TERMS)
        house.handle(OTHER, ("told", (("lamp", SECOND.value()), ("lamp", THIRD.value()))))
        self.assertEqual(kept_by(house), {"lamp": (SECOND | THIRD).value()})

    def test_an_empty_kept_form_is_kept_from_then_on(self):
        house = House(5, TERMS)
        house.handle(OTHER, ("told", told(lamp=empty_keep())))
        self.assertEqual(kept_by(house), {"lamp": EMPTY})
        self.assertEqual(house.news(), ("news", (("lamp", ()),)))

    def test_great_clocks(self):
        house = house_with(lamp=GREAT)
        house.handle(OTHER, ("told", told(lamp=GREATER)))
        self.assertEqual(house.keep("lamp").value(), (GREAT | GREATER).value())

    def test_a_sealed_view_stays_sealed(self):
        house = house_at(0)
        house.handle(OTHER, ("seal", 0))
        house.handle(OTHER, ("told", told(lamp=FIRST)))
        self.assertEqual((house.sealed, house.serves(0), kept_by(house)), (True, False, {"lamp": FIRST.value()}))

    def test_what_is_passed_stays_as_it_was(self):
        bodies = [("told", told(lamp=FIRST, shoes=THIRD)), ("news", clocks_of(lamp=SECOND)), ("told", told(lamp=SECOND))]
        before = copy.deepcopy(bodies)
        house = House(5, TERMS)
        for body in bodies:
            house.handle(OTHER, body)
        self.assertEqual(bodies, before)


class Exchanges(unittest.TestCase):
    def exchange(self, one, other):
        """Let one house tell its news to the other one, and return what it is told."""
        answer, = other.handle(("house", one.number), one.news())
        self.assertEqual(answer[0], ("house", one.number))
        self.assertEqual(one.handle(("house", other.number), answer[1]), [])
        return answer[1]

    def test_a_second_exchange_tells_nothing(self):
        one, other = house_with(lamp=FIRST, door=empty_keep()), house_with(lamp=THIRD, shoes=SECOND, lid=empty_keep())
        self.assertEqual(self.exchange(one, other), ("told", told(lamp=THIRD, shoes=SECOND)))
        self.assertEqual(self.exchange(one, other), ("told", ()))
        self.assertEqual(kept_by(one), {"door": EMPTY, "lamp": (FIRST | THIRD).value(), "shoes": SECOND.value()})
        self.assertEqual(self.exchange(other, one), ("told", told(lamp=FIRST | THIRD)))
        self.assertEqual(self.exchange(other, one), ("told", ()))
        self.assertEqual(other.keep("lamp").value(), one.keep("lamp").value())

    def test_an_exchange_with_itself(self):
        house = house_with(lamp=FIRST, door=empty_keep())
        before = state(house)
        self.assertEqual(self.exchange(house, house), ("told", ()))
        self.assertEqual(state(house), before)

    def test_any_exchanges(self):
        source = random.Random(5111)
        for _ in range(40):
            deeds = any_history(source, 10)
            parts = [[deed for deed in deeds if source.random() < 0.5] for _ in range(2)]
            one, other = [house_with(lamp=kept(part)) for part in parts]
            self.exchange(one, other)
            self.assertTrue(one.keep("lamp").clock.covers(other.keep("lamp").clock))
            self.assertEqual(self.exchange(one, other), ("told", ()))
            self.assertIsInstance(one.keep("lamp"), Keep)
