"""Histories: what is live, kept and heard, and the joins of pieces (points 2.6 to 2.9)."""

import copy
import itertools
import random
import unittest

from models import any_history
from ringheld import history as history_file
from ringheld.clock import Clock
from ringheld.history import heard, kept, live
from ringheld.keep import Keep, empty_keep, piece

LIMIT = 10 ** 12
FLAG = ((), "flag", 1)
HISTORY = [
    ((0, 1), ((), "value", "a"), ()),
    ((0, 2), ((), "value", "b"), ((0, 1),)),
    ((1, 1), ((), "value", "c"), ((0, 1), (3, 3))),
    ((1, 2), None, ((0, 2), (5, 2))),
    ((2, 4), (("a",), "amount", 4), ()),
    ((7, 1), None, ()),
]
LIVE = [((1, 1), ((), "value", "c")), ((2, 4), (("a",), "amount", 4))]
CLOCK_VALUE = ((0, 2, ()), (1, 2, ()), (2, 0, (4,)), (3, 0, (3,)), (5, 0, (2,)), (7, 1, ()))


def live_of(history):
    """Return the live pairs, by point 2.7 word for word."""
    return sorted([(deed[0], deed[1]) for deed in history
                   if deed[1] is not None and not any(deed[0] in other[2] for other in history)])


def dots_of(history):
    return [deed[0] for deed in history] + [dot for deed in history for dot in deed[2]]


def histories(many=200, deeds=9):
    source = random.Random(26)
    return [any_history(source, deeds) for _ in range(many)]


def join_all(keeps):
    keep = empty_keep()
    for other in keeps:
        keep = keep | other
    return keep


class OneHistory(unittest.TestCase):
    def test_any_order(self):
        for order in itertools.permutations(HISTORY):
            history = list(order)
            self.assertEqual(live(history), LIVE)
            self.assertEqual(kept(history).value(), (tuple(LIVE), CLOCK_VALUE))
            self.assertEqual(history, list(order))

    def test_no_deeds(self):
        self.assertEqual(live([]), [])
        self.assertEqual(kept([]).value(), ((), ()))
        self.assertEqual(heard([], Clock([(0, 1)])), [])

    def test_one_deed(self):
        self.assertEqual(live([((0, 1), FLAG, ())]), [((0, 1), FLAG)])
        self.assertEqual(live([((0, 1), None, ())]), [])
        self.assertEqual(live([((0, 1), FLAG, ((0, 2), (9, 9)))]), [((0, 1), FLAG)])
        self.assertEqual(kept([((0, 1), None, ((0, 2), (9, 9)))]).value(), ((), ((0, 2, ()), (9, 0, (9,)))))

    def test_deeds_that_overtake_each_other(self):
        history = [((0, 1), FLAG, ((1, 1),)), ((1, 1), FLAG, ((0, 1),))]
        self.assertEqual(live(history), [])
        self.assertEqual(kept(history).value(), ((), ((0, 1, ()), (1, 1, ()))))
        history = [((0, 1), FLAG, ((0, 2),)), ((0, 2), FLAG, ((0, 3),)), ((0, 3), FLAG, ((0, 1),)), ((0, 4), FLAG, ())]
        self.assertEqual(live(history), [((0, 4), FLAG)])

    def test_an_overtaken_deed_overtakes_all_the_same(self):
        history = [((0, 1), FLAG, ()), ((0, 2), FLAG, ((0, 1),)), ((0, 3), None, ((0, 2),))]
        self.assertEqual(live(history), [])
        self.assertEqual(live(history[:2]), [((0, 2), FLAG)])
        self.assertEqual(live(history[1:]), [])

    def test_dots_of_which_there_is_no_deed(self):
        history = [((0, 5), FLAG, ((0, 1), (0, 2), (4, 1)))]
        self.assertEqual(kept(history).value(), ((((0, 5), FLAG),), ((0, 2, (5,)), (4, 1, ()))))
        self.assertEqual(kept(history + [((4, 1), FLAG, ()), ((0, 2), FLAG, ())]).value(), kept(history).value())

    def test_pairs_are_tuples_by_ascending_dot(self):
        history = [((client, number), FLAG, ()) for client in (10, 9, 2) for number in (11, 2, 1)]
        expected = [((client, number), FLAG) for client in (2, 9, 10) for number in (1, 2, 11)]
        self.assertEqual(live(history), expected)
        self.assertEqual({type(pair) for pair in live(history)}, {tuple})
        self.assertIsInstance(kept(history), Keep)

    def test_entries_that_cannot_be_compared(self):
        history = [((0, 2), ((), "value", 5), ()), ((0, 1), ((), "value", "5"), ()), ((0, 3), None, ())]
        self.assertEqual(live(history), [((0, 1), ((), "value", "5")), ((0, 2), ((), "value", 5))])

    def test_any_histories(self):
        for history in histories():
            self.assertEqual(live(history), live_of(history))
            self.assertEqual(kept(history).value(), (tuple(live_of(history)), Clock(dots_of(history)).value()))

    def test_what_is_passed_stays_and_what_is_returned_is_new(self):
        history = copy.deepcopy(HISTORY)
        keep, rows, deeds = kept(history), live(history), heard(history, Clock(dots_of(history)))
        self.assertEqual(history, HISTORY)
        rows.clear()
        deeds.clear()
        self.assertEqual(history, HISTORY)
        self.assertEqual(live(history), LIVE)
        history.clear()
        self.assertEqual(keep.value(), (tuple(LIVE), CLOCK_VALUE))

    def test_many_deeds(self):
        history = [((0, number), FLAG, ((0, number - 1),) if number > 1 else ()) for number in range(2000, 0, -1)]
        self.assertEqual(live(history), [((0, 2000), FLAG)])
        self.assertEqual(kept(history).value(), ((((0, 2000), FLAG),), ((0, 2000, ()),)))

    def test_examples(self):
        history = [((1, 1), None, ((0, 1),)), ((0, 1), ((), "flag", 1), ()), ((0, 2), ((), "amount", 5), ())]
        self.assertEqual(live(history), [((0, 2), ((), "amount", 5))])
        self.assertEqual(kept(history).clock.value(), ((0, 2, ()), (1, 1, ())))

    def test_each_is_defined_in_its_file(self):
        for function in (live, kept, heard):
            self.assertEqual(function.__module__, history_file.__name__)


class Heard(unittest.TestCase):
    def test_the_order_of_the_history(self):
        clock = Clock([(7, 1), (0, 2), (1, 1), (2, 4)])
        for order in itertools.permutations(HISTORY):
            expected = [deed for deed in order if deed[0] in [(7, 1), (0, 2), (1, 1), (2, 4)]]
            self.assertEqual(heard(list(order), clock), expected)

    def test_each_choice_of_dots(self):
        dots = [deed[0] for deed in HISTORY]
        for many in range(len(dots) + 1):
            for some in itertools.combinations(dots, many):
                for others in ([], [(0, 3), (9, 9), (2, 3), (2, 5)]):
                    expected = [deed for deed in HISTORY if deed[0] in some]
                    self.assertEqual(heard(HISTORY, Clock(list(some) + others)), expected)

    def test_dots_that_are_only_overtaken_do_not_count(self):
        self.assertEqual(heard(HISTORY, Clock([(3, 3), (5, 2)])), [])
        self.assertEqual(heard(HISTORY, Clock([])), [])

    def test_great_clocks(self):
        clock = Clock.from_value(((0, LIMIT, ()), (1, 0, (2, LIMIT)), (2, LIMIT, ())))
        self.assertEqual(heard(HISTORY, clock), [HISTORY[0], HISTORY[1], HISTORY[3], HISTORY[4]])


class PiecesAndHistories(unittest.TestCase):
    def test_any_order_of_the_pieces(self):
        for order in itertools.permutations(HISTORY):
            self.assertEqual(join_all([piece(deed) for deed in order]).value(), (tuple(LIVE), CLOCK_VALUE))

    def test_pieces_in_any_grouping_and_twice(self):
        source = random.Random(8)
        for history in histories():
            pieces = [piece(deed) for deed in history]
            keeps = pieces + [source.choice(pieces) for _ in range(4) if pieces] + [empty_keep()]
            while len(keeps) > 1:
                one, other = [keeps.pop(source.randrange(len(keeps))) for _ in range(2)]
                keeps.append(one | other)
            self.assertEqual(keeps[0].value(), kept(history).value())

    def test_two_histories(self):
        source = random.Random(9)
        for history in histories():
            one = [deed for deed in history if source.random() < 0.6]
            other = [deed for deed in history if deed not in one or source.random() < 0.4]
            source.shuffle(other)
            joined = kept(one) | kept(other)
            self.assertEqual(joined.value(), kept(history).value())
            self.assertEqual((kept(other) | kept(one)).value(), joined.value())
            self.assertIs(joined.covers(kept(one)), True)

    def test_an_overtaken_entry_does_not_come_back(self):
        for history in histories():
            for many in range(len(history)):
                overtaken = [deed[0] for deed in history[:many] if deed[0] not in dict(live(history[:many]))]
                for dot in overtaken:
                    self.assertNotIn(dot, dict(live(history)))
                    self.assertIsNone((kept(history[:many]) | kept(history)).entry(dot))
        deeds = [((0, 1), FLAG, ()), ((1, 1), None, ((0, 1),))]
        gone = ((), ((0, 1, ()), (1, 1, ())))
        self.assertEqual((kept(deeds) | piece(deeds[0])).value(), gone)
        self.assertEqual((piece(deeds[1]) | kept(deeds[:1])).value(), gone)

    def test_closed_histories(self):
        for history in histories(400):
            own = {deed[0] for deed in history}
            closed = [(dot, entry, tuple([other for other in over if other in own])) for dot, entry, over in history]
            self.assertEqual(kept(closed).clock.value(), Clock(sorted(own)).value())
            self.assertEqual(heard(closed, kept(closed).clock), closed)
            self.assertEqual(kept(heard(closed, kept(closed).clock)).value(), kept(closed).value())

    def test_great_numbers(self):
        history = [((0, LIMIT), FLAG, ((0, LIMIT - 1), (1, LIMIT))), ((1, LIMIT), FLAG, ()), ((LIMIT, 1), FLAG, ())]
        expected = ((((0, LIMIT), FLAG), ((LIMIT, 1), FLAG)),
                    ((0, 0, (LIMIT - 1, LIMIT)), (1, 0, (LIMIT,)), (LIMIT, 1, ())))
        self.assertEqual(kept(history).value(), expected)
        self.assertEqual(join_all([piece(deed) for deed in history]).value(), expected)
