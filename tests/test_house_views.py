"""Houses that take over for a view: begin and the answers to seals (points 5.6, 5.10, 5.12, 5.13)."""

import copy
import itertools
import random
import unittest

from houses import ELSEWHERE, EMPTY, FIRST, GREAT, GREATER, LIMIT, SECOND, TERMS, THIRD, house_at, kept_by, state, store, told
from ringheld.house import House
from ringheld.keep import empty_keep
from ringheld.quorum import Terms, enough
from ringheld.ring import Ring

# House 5 comes to this ring. In ELSEWHERE all places have the owners 0, 1 and 2, in any order.
WITH_5 = Ring([(0, 0), (80, 1), (120, 5), (160, 2)], 3)


def seals(view, *houses):
    return [(("house", house), ("seal", view)) for house in houses]


def sealed(house, sender, view, told_pairs=()):
    """Let the house hear the answer to a seal; nothing may be sent."""
    assert house.handle(("house", sender), ("sealed", view, told_pairs)) == []


class Begin(unittest.TestCase):
    def nothing_happens(self, house, view, old=ELSEWHERE, new=ELSEWHERE):
        before = state(house)
        self.assertEqual(house.begin(view, old, new), [])
        self.assertEqual(state(house), before)

    def test_a_view_that_is_not_above_the_floor(self):
        for floor in (1, 2, 6):
            for view in range(1, floor + 1):
                house = House(5, TERMS)
                house.forget(floor)
                self.nothing_happens(house, view)
            house.begin(floor + 1, ELSEWHERE, ELSEWHERE)
            self.assertEqual(house.opened, [floor + 1])

    def test_a_view_that_is_not_above_the_view_of_the_house(self):
        for views in [(0, 1), (0, 4), (5,)]:
            house = house_at(*views)
            for view in range(1, views[-1] + 1):
                self.nothing_happens(house, view)
                self.nothing_happens(house, view, ELSEWHERE, WITH_5)
            self.assertIs(house.serves(views[-1]), True)

    def test_a_handover_under_way_goes_on_if_nothing_happens(self):
        house = house_at(0, 2)
        house.begin(3, ELSEWHERE, WITH_5)
        sealed(house, 0, 2)
        self.assertEqual(house.begin(2, ELSEWHERE, ELSEWHERE), [])
        self.assertEqual(house.begin(1, ELSEWHERE, WITH_5), [])
        sealed(house, 1, 2)
        self.assertEqual(house.opened, [0, 2, 3])

    def test_the_view_one_less_is_sealed(self):
        for views in [(0,), (0, 1), (4,)]:
            house = house_at(*views)
            store(house, "lamp", FIRST)
            view = views[-1] + 1
            self.assertEqual(house.begin(view, ELSEWHERE, WITH_5), seals(view - 1, 0, 1, 2))
            self.assertEqual(state(house), (5, TERMS, -1, views[-1], list(views), True, [], {"lamp": FIRST.value()}))

    def test_another_view_is_not_sealed(self):
        for views, view in [((0,), 2), ((0,), 5), ((0, 1), 3), ((2,), 4)]:
            house = house_at(*views)
            self.assertEqual(house.begin(view, ELSEWHERE, WITH_5), seals(view - 1, 0, 1, 2))
            self.assertEqual((house.opened, house.sealed, house.serves(views[-1])), (list(views), False, True))

    def test_a_house_that_has_opened_nothing(self):
        house = House(5, TERMS)
        self.assertEqual(house.begin(3, ELSEWHERE, WITH_5), seals(2, 0, 1, 2))
        self.assertEqual(state(house), (5, TERMS, -1, None, [], False, [], {}))
        sealed(house, 2, 2)
        self.assertEqual(house.opened, [])
        sealed(house, 0, 2)
        self.assertEqual(house.opened, [3])

    def test_the_house_itself_is_heard(self):
        old = Ring([(0, 5), (80, 1), (160, 2)], 3)
        for terms in (Terms(3, 2, 2), Terms(3, 3, 2)):
            house = house_at(0, terms=terms)
            store(house, "lamp", FIRST)
            house.begin(1, old, WITH_5)
            self.assertEqual(house.opened, [0])
            sealed(house, 1, 0, told(lamp=SECOND))
            self.assertEqual(house.opened, [0, 1])
            self.assertEqual(kept_by(house), {"lamp": (FIRST | SECOND).value()})

    def test_a_house_that_has_not_opened_the_view_one_less_is_not_heard(self):
        old = Ring([(0, 5), (80, 1), (160, 2)], 3)
        for house in (House(5, TERMS), house_at(0), house_at(0, 1)):
            house.begin(3, old, WITH_5)
            sealed(house, 1, 2)
            self.assertNotIn(3, house.opened)
            sealed(house, 2, 2)
            self.assertIn(3, house.opened)

    def test_a_house_that_has_forgotten_is_not_heard(self):
        old = Ring([(0, 5), (80, 1), (160, 2)], 3)
        house = house_at(0)
        house.forget(0)
        house.begin(1, old, WITH_5)
        self.assertIs(house.sealed, False)
        sealed(house, 1, 0)
        self.assertEqual(house.opened, [])
        sealed(house, 2, 0)
        self.assertEqual(house.opened, [1])

    def test_seals_go_to_every_other_house_of_the_old_ring(self):
        old = Ring([(0, 9), (10, 5), (20, 3), (30, 9), (40, 0), (50, 12), (60, 3)], 2)
        for house, others in [(house_at(0), [0, 3, 9, 12]), (house_at(0, number=9), [0, 3, 5, 12]),
                              (house_at(0, number=0), [3, 5, 9, 12]), (house_at(0, number=7), [0, 3, 5, 9, 12])]:
            self.assertEqual(house.begin(1, old, ELSEWHERE), seals(0, *others))

    def test_seals_are_sent_also_if_the_view_is_opened_at_once(self):
        house = house_at(0)
        self.assertEqual(house.begin(1, ELSEWHERE, ELSEWHERE), seals(0, 0, 1, 2))
        self.assertEqual(house.opened, [0, 1])
        alone = Ring([(7, 5)], 1)
        house = house_at(0, terms=Terms(1, 1, 1))
        self.assertEqual(house.begin(1, alone, alone), [])
        self.assertEqual(house.opened, [0, 1])

    def test_ready_at_once_without_a_place_in_the_new_ring(self):
        for house in (House(5, TERMS), house_at(0), house_at(0, 1), house_at(7)):
            view = 8
            before = kept_by(house)
            house.begin(view, WITH_5, ELSEWHERE)
            self.assertEqual((house.view, house.sealed, kept_by(house)), (view, False, before))
            self.assertIs(house.serves(view), True)

    def test_ready_at_once_if_one_owner_is_needed(self):
        for terms in (Terms(3, 3, 3), Terms(1, 1, 1)):
            ring = Ring([(0, 5), (80, 5), (160, 2), (200, 1)], terms.copies)
            alone = Ring([(0, 5), (160, 2), (200, 1)], terms.copies)
            house = house_at(0, terms=terms)
            store(house, "lamp", FIRST)
            self.assertEqual(house.begin(1, ring, alone), seals(0, 1, 2))
            self.assertEqual(state(house), (5, terms, -1, 1, [0, 1], False, [1], {"lamp": FIRST.value()}))

    def test_not_ready_at_once_if_the_one_owner_is_another_house(self):
        house = house_at(0, terms=Terms(1, 1, 1))
        old, new = Ring([(0, 5), (128, 2)], 1), Ring([(0, 5), (64, 5), (128, 2)], 1)
        house.begin(1, old, new)
        self.assertEqual(house.opened, [0])
        house = house_at(0, terms=Terms(1, 1, 1))
        house.begin(1, new, old)
        self.assertEqual(house.opened, [0, 1])

    def test_one_that_is_begun_while_another_one_is_under_way(self):
        for first, second in [(2, 4), (4, 2), (4, 4)]:
            house = House(5, TERMS)
            house.begin(first, ELSEWHERE, WITH_5)
            sealed(house, 0, first - 1, told(lamp=FIRST))
            self.assertEqual(house.begin(second, ELSEWHERE, WITH_5), seals(second - 1, 0, 1, 2))
            sealed(house, 1, first - 1, told(shoes=SECOND))
            if first != second:
                sealed(house, 2, first - 1)
                self.assertEqual(house.opened, [])
                sealed(house, 2, second - 1, told(door=THIRD))
            self.assertEqual(house.opened, [])
            sealed(house, 0, second - 1)
            self.assertEqual(house.opened, [second])
            keeps = {"shoes": SECOND} if first == second else {"door": THIRD}
            self.assertEqual(kept_by(house), {key: keeps[key].value() for key in keeps})

    def test_what_is_passed_stays_as_it_was(self):
        before = (ELSEWHERE.value(), WITH_5.value())
        house = house_at(0)
        house.begin(1, ELSEWHERE, WITH_5)
        body = ("sealed", 0, told(lamp=FIRST, shoes=SECOND))
        copied = copy.deepcopy(body)
        for sender in (0, 1):
            house.handle(("house", sender), body)
        self.assertEqual(house.opened, [0, 1])
        self.assertEqual((ELSEWHERE.value(), WITH_5.value(), body), (*before, copied))


class Answers(unittest.TestCase):
    def nothing_changes(self, house, senders, views, pairs):
        before = state(house)
        for sender, view in itertools.product(senders, views):
            sealed(house, sender, view, pairs)
        self.assertEqual(state(house), before)

    def test_before_a_begin(self):
        for house in (House(5, TERMS), house_at(0), house_at(0, 3)):
            self.nothing_changes(house, range(6), range(6), told(lamp=FIRST))
        house = house_at(0)
        self.nothing_changes(house, [0, 1, 2], [0], told(lamp=FIRST))
        house.begin(1, ELSEWHERE, WITH_5)
        self.assertEqual(house.opened, [0])

    def test_of_another_view(self):
        house = House(5, TERMS)
        house.begin(3, ELSEWHERE, WITH_5)
        self.nothing_changes(house, [0, 1, 2], [0, 1, 3, 4, LIMIT], told(lamp=FIRST))
        sealed(house, 0, 2)
        sealed(house, 1, 2)
        self.assertEqual((house.opened, kept_by(house)), ([3], {}))

    def test_of_the_same_house_twice(self):
        house = House(5, TERMS)
        house.begin(3, ELSEWHERE, WITH_5)
        self.nothing_changes(house, [1, 1, 1], [2], told(lamp=FIRST))
        sealed(house, 2, 2)
        self.assertEqual((house.opened, kept_by(house)), ([3], {"lamp": FIRST.value()}))

    def test_of_houses_that_own_nothing(self):
        house = House(5, TERMS)
        house.begin(3, ELSEWHERE, WITH_5)
        self.nothing_changes(house, [3, 4, 5, 8, LIMIT], [2], told(lamp=FIRST))
        sealed(house, 2, 2)
        self.assertEqual(house.opened, [])
        sealed(house, 0, 2, told(shoes=SECOND))
        self.assertEqual((house.opened, kept_by(house)), ([3], {"lamp": FIRST.value(), "shoes": SECOND.value()}))

    def test_nothing_is_kept_before_the_view_is_opened(self):
        house = house_at(0)
        store(house, "lamp", FIRST)
        house.begin(1, ELSEWHERE, WITH_5)
        self.nothing_changes(house, [0], [0], told(lamp=SECOND, shoes=THIRD))

    def test_behind_the_end_of_the_handover(self):
        house = house_at(0)
        house.begin(1, ELSEWHERE, WITH_5)
        sealed(house, 0, 0, told(lamp=FIRST))
        sealed(house, 1, 0)
        self.assertEqual(state(house), (5, TERMS, -1, 1, [0, 1], False, [1], {"lamp": FIRST.value()}))
        self.nothing_changes(house, [0, 1, 2, 7], [0, 1], told(lamp=SECOND, door=THIRD))
        house.handle(("house", 1), ("seal", 1))
        self.nothing_changes(house, [0, 1, 2, 7], [0, 1], told(lamp=SECOND, door=THIRD))

    def test_behind_a_fall_and_a_forgetting(self):
        for give_up in (lambda house: house.fall(), lambda house: house.forget(1), lambda house: house.forget(-1)):
            house = house_at(0)
            house.begin(1, ELSEWHERE, WITH_5)
            sealed(house, 0, 0, told(lamp=FIRST))
            give_up(house)
            self.nothing_changes(house, [0, 1, 2], [0, 1], told(lamp=SECOND))

    def test_the_view_is_opened_exactly_as_soon_as_enough_were_heard(self):
        for terms in (Terms(3, 3, 3), Terms(3, 2, 2), Terms(3, 3, 1), Terms(3, 1, 3)):
            for senders in itertools.permutations([0, 1, 2]):
                house = house_at(0, terms=terms)
                house.begin(1, ELSEWHERE, WITH_5)
                for many, sender in enumerate(senders, 1):
                    sealed(house, sender, 0)
                    self.assertEqual(house.opened, [0, 1] if many >= terms.handing else [0])

    def test_enough_owners_of_every_place(self):
        source = random.Random(513)
        for _ in range(60):
            old, new = [Ring([(place, source.randrange(8)) for place in source.sample(range(256), 12)], 1) for _ in range(2)]
            house, senders = house_at(0, terms=Terms(1, 1, 1)), source.sample(range(8), 8)
            house.begin(1, old, new)
            heard = [5]
            for sender in [None, *senders]:
                if sender is not None:
                    sealed(house, sender, 0)
                    heard.append(sender)
                ready = all(enough(heard, old.owners(place), 1) for place in range(256) if 5 in new.owners(place))
                self.assertEqual(house.opened, [0, 1] if ready else [0])

    def test_what_is_kept_then(self):
        house = house_at(0)
        store(house, "lamp", FIRST)
        store(house, "own", THIRD)
        house.begin(1, ELSEWHERE, WITH_5)
        house.handle(("house", 9), ("told", told(late=FIRST, lamp=THIRD)))
        sealed(house, 2, 0, told(lamp=SECOND, shoes=FIRST))
        sealed(house, 0, 0, told(door=empty_keep(), shoes=SECOND))
        self.assertEqual(house.opened, [0, 1])
        self.assertEqual(kept_by(house), {"door": EMPTY, "lamp": (SECOND | THIRD | FIRST).value(), "late": FIRST.value(),
                                          "own": THIRD.value(), "shoes": (FIRST | SECOND).value()})

    def test_the_view_is_put_behind_the_others_and_is_not_sealed(self):
        house = house_at(0, 1, 5)
        house.handle(("house", 1), ("seal", 5))
        house.begin(8, ELSEWHERE, WITH_5)
        self.assertIs(house.sealed, True)
        sealed(house, 0, 7)
        sealed(house, 1, 7)
        self.assertEqual(state(house), (5, TERMS, -1, 8, [0, 1, 5, 8], False, [8], {}))

    def test_several_handovers_one_after_the_other(self):
        rings = [Ring([(0, 0), (80, 1), (120, 5), (160, 2), (10 * view, 3)], 3) for view in range(1, 6)]
        house = house_at(0)
        for view in range(1, 5):
            house.begin(view, rings[view - 1], rings[view])
            for sender in (0, 1, 2, 3):
                sealed(house, sender, view - 1, ((f"key {view}", FIRST.value()),))
            self.assertEqual(house.opened, list(range(view + 1)))
            self.assertIn(f"key {view}", house.kept_keys())

    def test_great_clocks(self):
        house = house_at(0)
        store(house, "lamp", GREAT)
        house.begin(1, ELSEWHERE, WITH_5)
        sealed(house, 0, 0, told(lamp=GREATER))
        sealed(house, 1, 0, told(lamp=GREAT))
        self.assertEqual(house.opened, [0, 1])
        self.assertEqual(kept_by(house), {"lamp": (GREAT | GREATER).value()})
