"""Terms, and how many owners are enough (points 4.9 to 4.11)."""

import itertools
import random
import unittest

from ringheld import quorum as quorum_file
from ringheld.errors import BadValue
from ringheld.quorum import Terms, enough
from things import TouchyInteger, odd_things, shown

LIMIT = 10 ** 12


def are_terms(copies, write, read):
    """Return True if the integers make terms, by point 4.9."""
    return copies >= 1 and 0 < write <= copies and 0 < read <= copies and write + read >= copies + 1


class TheTerms(unittest.TestCase):
    def check(self, copies, write, read):
        terms = Terms(copies, write, read)
        self.assertEqual((terms.copies, terms.write, terms.read), (copies, write, read))
        self.assertEqual(terms.handing, copies - sorted([write, read])[0] + 1)

    def refused(self, copies, write, read):
        with self.assertRaises(BadValue, msg=shown((copies, write, read))):
            Terms(copies, write, read)

    def test_small_numbers(self):
        for numbers in itertools.product(range(-2, 10), repeat=3):
            if are_terms(*numbers):
                self.check(*numbers)
            else:
                self.refused(*numbers)

    def test_great_numbers(self):
        for copies in (8, 100, 10 ** 6, 10 ** 11):
            half = copies // 2
            for write, read in [(copies, copies), (copies, 1), (1, copies), (half, half + 1), (half + 1, half)]:
                self.check(copies, write, read)
            for write, read in [(half, half), (copies - 1, 1), (1, copies - 1), (0, copies), (copies, 0),
                                (copies + 1, 1), (1, copies + 1), (copies + 1, copies + 1), (-1, copies), (copies, -1)]:
                self.refused(copies, write, read)

    def test_numbers_out_of_range(self):
        for number in (-1, -LIMIT, LIMIT + 1, 10 ** 30, -10 ** 30):
            for numbers in [(number, 2, 2), (3, number, 2), (3, 2, number), (number, number, number),
                            (number, number, 1), (number, 1, number)]:
                self.refused(*numbers)

    def test_other_kinds(self):
        for thing in odd_things() + ["1", "", (), (1,), [1], 1.0, TouchyInteger(1), Terms(1, 1, 1)]:
            for numbers in [(thing, 1, 1), (1, thing, 1), (1, 1, thing), (thing, 2, 2), (3, thing, 3), (3, 3, thing),
                            (thing, thing, thing)]:
                self.refused(*numbers)

    def test_examples(self):
        self.assertEqual(Terms(5, 4, 2).handing, 4)
        self.refused(3, 2, 1)

    def test_they_do_not_change(self):
        terms, others = Terms(5, 4, 2), Terms(3, 2, 2)
        for name in ("copies", "write", "read", "handing"):
            with self.assertRaises(AttributeError):
                setattr(terms, name, 1)
        self.assertEqual((terms.copies, terms.write, terms.read, terms.handing), (5, 4, 2, 4))
        self.assertEqual((others.copies, others.write, others.read, others.handing), (3, 2, 2, 2))

    def test_the_interface_stands_in_the_file_and_in_the_class(self):
        for thing in (Terms, enough):
            self.assertEqual(thing.__module__, quorum_file.__name__)
        for name in ("copies", "write", "read", "handing"):
            self.assertIsInstance(vars(Terms)[name], property)


class Enough(unittest.TestCase):
    def check(self, members, owners, met):
        """Check each count, where so many owners are met among the members."""
        before = (list(members), list(owners))
        for count in range(len(owners) + 2):
            self.assertIs(enough(members, owners, count), count <= met, (members, owners, count))
        self.assertEqual((members, owners), before)

    def test_members_in_any_order(self):
        for owners in itertools.permutations([1, 3, 5]):
            for members in itertools.permutations([5, 9, 3, 0]):
                self.check(list(members), list(owners), 2)

    def test_duplicates_count_once(self):
        self.check([5, 9, 5], [1, 3, 5], 1)
        self.check([5, 5, 5, 5], [5, 1], 1)
        self.check([5, 1, 5, 1, 5], [5, 1], 2)
        self.check([9, 9, 9], [5, 1], 0)

    def test_others_do_not_count(self):
        self.check([0, 2, 4, 6], [1, 3, 5], 0)
        self.check([0, 1, 2, 3, 4, 5, 6], [1, 3, 5], 3)
        self.check([LIMIT, LIMIT - 1], [LIMIT, 0], 1)

    def test_no_members_and_no_owners(self):
        self.check([], [1, 3, 5], 0)
        self.check([], [], 0)
        self.check([1, 2], [], 0)

    def test_a_great_count(self):
        self.assertIs(enough([1, 2], [1, 2], LIMIT), False)

    def test_any_lists(self):
        source = random.Random(410)
        for _ in range(300):
            owners = source.sample(range(12), source.randint(0, 8))
            members = [source.randrange(12) for _ in range(source.randint(0, 12))]
            self.check(members, owners, len([owner for owner in owners if owner in members]))

    def test_examples(self):
        self.assertIs(enough([5, 9, 5], [1, 3, 5], 2), False)
        self.assertIs(enough([5, 3], [1, 3, 5], 2), True)


class LotsOfOwners(unittest.TestCase):
    """Point 4.11, for all terms with few copies and all lots of so many owners."""

    def each_terms(self):
        for copies, write, read in itertools.product(range(1, 6), repeat=3):
            if are_terms(copies, write, read):
                yield Terms(copies, write, read), list(range(10, 10 + copies))

    def lots(self, owners):
        return [list(some) for many in range(len(owners) + 1) for some in itertools.combinations(owners, many)]

    def test_write_and_read_meet(self):
        for terms, owners in self.each_terms():
            for one, other in itertools.product(self.lots(owners), repeat=2):
                if not set(one) & set(other):
                    written, read = enough(one, owners, terms.write), enough(other, owners, terms.read)
                    self.assertFalse(written and read, (one, other))

    def test_handing_meets_write_and_read(self):
        for terms, owners in self.each_terms():
            for one, other in itertools.product(self.lots(owners), repeat=2):
                if not set(one) & set(other) and enough(one, owners, terms.handing):
                    self.assertFalse(enough(other, owners, terms.write), (one, other))
                    self.assertFalse(enough(other, owners, terms.read), (one, other))

    def test_handing_is_all_that_the_others_lack(self):
        for terms, owners in self.each_terms():
            for lot in self.lots(owners):
                others = [owner for owner in owners if owner not in lot]
                lacking = not enough(others, owners, terms.write) and not enough(others, owners, terms.read)
                self.assertIs(enough(lot, owners, terms.handing), lacking)
