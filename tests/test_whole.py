"""What the whole program leads to, in drawn runs of halls (point 0.3)."""

import unittest

from models import entry_of, overtakes
from ringheld.audit import audit
from ringheld.clock import Clock
from ringheld.history import heard, kept
from ringheld.settle import settle
from ringheld.show import show
from runs import CALM, FORGETFUL, KEYS, TERMS, WILD, Run


def histories(hall):
    """Return the dict from the keys to the lists of their deeds."""
    return {key: [event[4] for event in hall.book if event[0] == "wished" and event[3] == key] for key in KEYS}


def keeps_of(hall, key):
    """Return what the houses keep and the clients know of a key."""
    houses = [hall.house(house) for house in range(hall.house_count())]
    clients = [hall.client(client) for client in range(hall.client_count())]
    return [house.keep(key) for house in houses] + [client.known(key) for client in clients]


class Whole(unittest.TestCase):
    def check_exact(self, hall):
        """Each kept form is the one of the deeds whose dots are in its clock, and its clock has no other dots."""
        for key, history in histories(hall).items():
            own = Clock([deed[0] for deed in history])
            for keep in keeps_of(hall, key):
                self.assertTrue(own.covers(keep.clock))
                self.assertEqual(keep.value(), kept(heard(history, keep.clock)).value())

    def check_meaning(self, run):
        """What is kept is what was wished and not overtaken by a later wish of a client that had seen it."""
        for key, wished in run.wished.items():
            for keep in keeps_of(run.hall, key):
                dots = [dot for dot in wished if dot in keep.clock]
                pairs = {dot: entry_of(wished[dot][0]) for dot in dots if entry_of(wished[dot][0]) is not None}
                lasting = [dot for dot in pairs if not any(
                    dot in wished[other][1] and overtakes(wished[other][0], pairs[dot]) for other in dots)]
                self.assertEqual(list(keep), sorted([(dot, pairs[dot]) for dot in lasting]))
                self.assertEqual(show(list(keep)), show([(dot, pairs[dot]) for dot in lasting]))

    def check_views(self, run):
        """A house that has opened a view has each deed on its keys that ended in a lesser view."""
        hall, many = run.hall, 0
        for key, dot, view in run.ended:
            for number in range(hall.house_count()):
                house = hall.house(number)
                later = [other for other in house.opened if other > view]
                if any(number in hall.notary.ring(other).owners_of(key) for other in later):
                    many += 1
                    self.assertTrue(dot in house.keep(key).clock, (key, dot, view, number))
        return many

    def check_run(self, run, steps):
        handed = 0
        for _ in range(steps // 50):
            run.steps(50)
            self.check_exact(run.hall)
            handed += self.check_views(run)
        self.check_meaning(run)
        self.assertEqual(audit(run.hall.book.events()), [])
        return handed

    def check_settled(self, run):
        settle(run.hall)
        self.assertEqual(len(run.hall.network), 0)
        self.check_exact(run.hall)
        self.check_views(run)
        self.check_meaning(run)
        self.assertEqual(audit(run.hall.book.events()), [])
        for key, history in histories(run.hall).items():
            houses = [run.hall.house(house) for house in range(run.hall.house_count())]
            self.assertEqual({house.keep(key).value() for house in houses}, {houses[0].keep(key).value()})

    def check_runs(self, seeds, weights, steps, terms=None):
        """Check runs, and return how many events of each word they had; "handed" counts deeds in later views."""
        counts = {"wished": 0, "asked": 0, "ended": 0, "shown": 0, "handed": 0}
        for seed in seeds:
            run = Run(seed, weights, terms)
            counts["handed"] += self.check_run(run, steps)
            for event in run.hall.book:
                counts[event[0]] += 1
            self.check_settled(run)
        return counts

    def test_calm_runs(self):
        counts = self.check_runs(range(25), CALM, 600)
        self.assertGreater(min(counts.values()), 50, counts)

    def test_wild_runs(self):
        counts = self.check_runs(range(100, 140), WILD, 500)
        self.assertGreater(min(counts.values()), 50, counts)

    def test_forgetful_runs(self):
        counts = self.check_runs(range(200, 240), FORGETFUL, 400)
        self.assertGreater(min(counts.values()), 20, counts)

    def test_each_terms(self):
        for seed, terms in enumerate(TERMS, 300):
            for weights in (CALM, WILD):
                self.check_runs([seed], weights, 600, terms)

    def test_a_long_run(self):
        self.check_runs([400], CALM, 3000)
