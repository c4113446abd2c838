"""The handover (point 5.12)."""

import copy
import itertools
import random
import unittest

from models import any_history
from ringheld import handover as handover_file
from ringheld.errors import BadValue
from ringheld.handover import Handover
from ringheld.history import kept
from ringheld.keep import Keep, empty_keep, piece
from ringheld.quorum import Terms
from ringheld.ring import Ring

OLD = Ring([(0, 0), (80, 1), (160, 2)], 3)
NEW = Ring([(0, 0), (80, 1), (160, 2), (200, 3)], 3)
TERMS = Terms(3, 2, 2)
FIRST = piece(((0, 1), (("size",), "value", 42), ()))
SECOND = piece(((1, 1), (("size",), "value", 43), ((0, 1),)))
THIRD = piece(((2, 1), ((), "amount", 5), ()))


def told(**keeps):
    return tuple([(key, keeps[key].value()) for key in sorted(keeps)])


def is_ready(owner, old, new, handing, senders):
    """Return whether enough owners of before were heard, place by place."""
    return all(len([house for house in old.owners(place) if house in senders]) >= handing
               for place in range(256) if owner in new.owners(place))


def values_of(handover):
    return {key: keep.value() for key, keep in handover.taken().items()}


class Ready(unittest.TestCase):
    def check(self, owner, old, new, terms, senders):
        """Check the handover before the first house is heard, and behind each one."""
        handover, heard = Handover(owner, 1, old, new, terms), []
        for sender in [None, *senders]:
            if sender is not None:
                heard.append(sender)
                self.assertIsNone(handover.hear(sender, ()))
            self.assertIs(handover.ready(), is_ready(owner, old, new, terms.handing, heard), (owner, heard))
            self.assertEqual(handover.heard(), sorted(set(heard)))

    def test_at_once_if_the_house_owns_no_place(self):
        for owner in (3, 9, 10 ** 12):
            handover = Handover(owner, 1, NEW, OLD, TERMS)
            self.assertIs(handover.ready(), True)
            handover.hear(0, ())
            self.assertIs(handover.ready(), True)

    def test_as_soon_as_handing_of_the_owners_were_heard(self):
        for terms, handing in [(Terms(3, 2, 2), 2), (Terms(3, 3, 3), 1), (Terms(3, 3, 1), 3), (Terms(3, 1, 3), 3)]:
            for senders in itertools.permutations(range(3)):
                handover = Handover(3, 1, OLD, NEW, terms)
                for many, sender in enumerate(senders):
                    self.assertIs(handover.ready(), many >= handing)
                    handover.hear(sender, ())
                self.assertIs(handover.ready(), True)

    def test_houses_that_are_heard_twice_count_once(self):
        handover = Handover(3, 1, OLD, NEW, TERMS)
        for _ in range(4):
            handover.hear(1, told(lamp=FIRST))
            self.assertIs(handover.ready(), False)
            self.assertEqual(handover.heard(), [1])
        handover.hear(0, ())
        self.assertIs(handover.ready(), True)
        self.assertEqual(handover.heard(), [0, 1])

    def test_houses_that_own_nothing_in_the_old_ring(self):
        handover = Handover(3, 1, OLD, NEW, TERMS)
        for sender in (3, 4, 50, 10 ** 12):
            handover.hear(sender, ())
            self.assertIs(handover.ready(), False)
        self.assertEqual(handover.heard(), [3, 4, 50, 10 ** 12])
        handover.hear(2, ())
        self.assertIs(handover.ready(), False)
        handover.hear(1, ())
        self.assertIs(handover.ready(), True)

    def test_each_place_counts(self):
        old = Ring([(0, 0), (64, 1), (128, 2), (192, 3)], 1)
        new = Ring([(0, 0), (10, 9), (64, 1), (70, 9), (128, 2), (192, 3)], 1)
        for senders in itertools.permutations([0, 1, 2, 3]):
            handover, heard = Handover(9, 1, old, new, Terms(1, 1, 1)), []
            for sender in senders:
                self.assertIs(handover.ready(), {1, 2} <= set(heard))
                handover.hear(sender, ())
                heard.append(sender)
            self.assertIs(handover.ready(), True)

    def test_only_the_places_of_the_new_ring_count(self):
        old, new = Ring([(0, 9), (100, 1), (200, 2)], 1), Ring([(50, 9), (100, 1), (200, 2)], 1)
        self.assertEqual(new.places_of(9), list(range(51)) + list(range(201, 256)))
        handover = Handover(9, 1, old, new, Terms(1, 1, 1))
        handover.hear(9, ())
        self.assertIs(handover.ready(), False)
        handover.hear(1, ())
        self.assertIs(handover.ready(), True)

    def test_any_rings_and_houses(self):
        source = random.Random(512)
        for _ in range(60):
            copies = source.randint(1, 4)
            rings = []
            for _ in range(2):
                places = source.sample(range(256), source.randint(8, 14))
                points = [(place, at if at < 4 else source.randrange(8)) for at, place in enumerate(places)]
                rings.append(Ring(points, copies))
            write = source.randint(1, copies)
            terms = Terms(copies, write, source.randint(copies - write + 1, copies))
            senders = [source.randrange(9) for _ in range(12)]
            self.check(source.randrange(9), *rings, terms, senders)


class Taken(unittest.TestCase):
    def test_nothing_was_told(self):
        handover = Handover(3, 1, OLD, NEW, TERMS)
        self.assertEqual(handover.taken(), {})
        self.assertEqual(handover.heard(), [])
        handover.hear(1, ())
        self.assertEqual(handover.taken(), {})
        self.assertEqual(handover.heard(), [1])

    def test_the_join_by_keys(self):
        tales = [(0, told(lamp=FIRST, shoes=THIRD)), (1, told(lamp=SECOND)), (2, told(door=empty_keep(), shoes=THIRD)),
                 (1, told(lamp=THIRD))]
        expected = {"lamp": (SECOND | THIRD | FIRST).value(), "shoes": THIRD.value(), "door": ((), ())}
        for order in itertools.permutations(tales):
            handover = Handover(3, 1, OLD, NEW, TERMS)
            for sender, pairs in order:
                handover.hear(sender, pairs)
            self.assertEqual(values_of(handover), expected)
            self.assertEqual(handover.heard(), [0, 1, 2])

    def test_kept_forms(self):
        handover = Handover(3, 1, OLD, NEW, TERMS)
        handover.hear(0, told(lamp=FIRST))
        self.assertIsInstance(handover.taken()["lamp"], Keep)
        self.assertEqual(handover.taken()["lamp"].value(), FIRST.value())

    def test_the_empty_kept_form_is_told_too(self):
        handover = Handover(3, 1, OLD, NEW, TERMS)
        handover.hear(0, told(lamp=empty_keep()))
        self.assertEqual(values_of(handover), {"lamp": ((), ())})
        handover.hear(1, told(lamp=FIRST))
        self.assertEqual(values_of(handover), {"lamp": FIRST.value()})
        handover.hear(2, told(lamp=empty_keep()))
        self.assertEqual(values_of(handover), {"lamp": FIRST.value()})

    def test_houses_that_own_nothing_tell_too(self):
        handover = Handover(3, 1, OLD, NEW, TERMS)
        handover.hear(77, told(lamp=FIRST))
        self.assertEqual(values_of(handover), {"lamp": FIRST.value()})

    def test_any_tales(self):
        source = random.Random(513)
        for _ in range(40):
            handover, deeds = Handover(3, 1, OLD, NEW, TERMS), {"a": [], "b": [], "c": []}
            history = any_history(source, 15)
            for sender in range(4):
                keys = source.sample(["a", "b", "c"], source.randint(0, 3))
                parts = {key: [deed for deed in history if source.random() < 0.5] for key in keys}
                handover.hear(sender, tuple([(key, kept(parts[key]).value()) for key in keys]))
                for key in keys:
                    deeds[key].append(parts[key])
            expected = {key: kept([deed for deed in history if any(deed in part for part in deeds[key])]).value()
                        for key in deeds if deeds[key]}
            self.assertEqual(values_of(handover), expected)

    def test_what_is_handed_out_is_new(self):
        handover = Handover(3, 1, OLD, NEW, TERMS)
        handover.hear(1, told(lamp=FIRST))
        handover.taken()["shoes"] = THIRD
        handover.taken().clear()
        handover.heard().append(0)
        handover.heard().clear()
        self.assertEqual(values_of(handover), {"lamp": FIRST.value()})
        self.assertEqual(handover.heard(), [1])
        self.assertIs(handover.ready(), False)
        before = handover.taken()
        handover.hear(0, told(lamp=SECOND, door=THIRD))
        self.assertEqual({key: keep.value() for key, keep in before.items()}, {"lamp": FIRST.value()})

    def test_what_is_passed_stays_as_it_was(self):
        pairs = told(lamp=FIRST, shoes=THIRD)
        before, old, new = copy.deepcopy(pairs), OLD.value(), NEW.value()
        handover = Handover(3, 1, OLD, NEW, TERMS)
        handover.hear(0, pairs)
        handover.hear(1, told(lamp=SECOND))
        handover.ready()
        self.assertEqual((pairs, OLD.value(), NEW.value()), (before, old, new))

    def test_an_error_changes_nothing(self):
        handover = Handover(3, 1, OLD, NEW, TERMS)
        handover.hear(0, told(lamp=FIRST))
        with self.assertRaises(BadValue):
            handover.hear(1, told(lamp=SECOND, shoes=THIRD) + (("door", ((), ((0, 0, ()),))),))
        self.assertEqual(values_of(handover), {"lamp": FIRST.value()})
        self.assertEqual(handover.heard(), [0])
        self.assertIs(handover.ready(), False)


class TheClass(unittest.TestCase):
    def test_fields(self):
        for owner, view in [(3, 1), (0, 7), (10 ** 12, 10 ** 12)]:
            handover = Handover(owner, view, OLD, NEW, TERMS)
            self.assertEqual((handover.owner, handover.target), (owner, view))
            handover.hear(1, told(lamp=FIRST))
            self.assertEqual((handover.owner, handover.target), (owner, view))

    def test_two_handovers(self):
        one, other = Handover(3, 1, OLD, NEW, TERMS), Handover(3, 1, OLD, NEW, TERMS)
        one.hear(0, told(lamp=FIRST))
        one.hear(1, ())
        other.hear(2, told(lamp=SECOND))
        self.assertEqual([one.ready(), other.ready()], [True, False])
        self.assertEqual([one.heard(), other.heard()], [[0, 1], [2]])
        self.assertEqual(values_of(one), {"lamp": FIRST.value()})
        self.assertEqual(values_of(other), {"lamp": SECOND.value()})

    def test_the_interface_stands_in_the_file_and_in_the_class(self):
        self.assertEqual(Handover.__module__, handover_file.__name__)
        for name in ("hear", "heard", "ready", "taken"):
            self.assertIn(name, vars(Handover))
