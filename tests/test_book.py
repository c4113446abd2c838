"""The book (point 8.5)."""

import unittest

from ringheld import book as book_file
from ringheld.book import Book

DEED = ((0, 1), ((), "flag", 1), ())
EVENTS = [("wished", 0, 1, "lamp", DEED), ("asked", 1, 1, "lamp", True), ("ended", 0, 1, (0, 1)),
          ("shown", 1, 1, ((), ())), ("ended", 0, 1, (0, 1))]


class TheBook(unittest.TestCase):
    def check(self, book, events):
        self.assertEqual(book.events(), events)
        self.assertEqual(list(book), events)
        self.assertEqual([event for event in book], events)
        self.assertEqual(len(book), len(events))

    def test_a_new_book(self):
        self.check(Book(), [])

    def test_events_stand_in_the_order_in_which_they_were_noted(self):
        book = Book()
        for many, event in enumerate(EVENTS, 1):
            self.assertIsNone(book.note(event))
            self.check(book, EVENTS[:many])
        for event in reversed(EVENTS):
            book.note(event)
        self.check(book, EVENTS + EVENTS[::-1])

    def test_a_list_that_is_returned_is_new(self):
        book = Book()
        book.note(EVENTS[0])
        before = book.events()
        book.events().append(EVENTS[1])
        book.events().clear()
        book.note(EVENTS[2])
        self.assertEqual(before, [EVENTS[0]])
        self.check(book, [EVENTS[0], EVENTS[2]])

    def test_two_books(self):
        one, other = Book(), Book()
        one.note(EVENTS[0])
        other.note(EVENTS[1])
        one.note(EVENTS[2])
        self.check(one, [EVENTS[0], EVENTS[2]])
        self.check(other, [EVENTS[1]])

    def test_the_interface_stands_in_the_file_and_in_the_class(self):
        self.assertEqual(Book.__module__, book_file.__name__)
        for name in ("note", "events", "__len__", "__iter__"):
            self.assertIn(name, vars(Book))
