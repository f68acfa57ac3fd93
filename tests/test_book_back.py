"""Deeds of a book that are taken back: [22]."""

import random
import unittest

from skiphall.book import Book
from skiphall.boxes import Box
from skiphall.errors import HallError, NoBack, Unlike
from skiphall.forms import One
from tests.booking import book_told, book_with, filler
from tests.boxing import PET, PLACE, box_of, edition, polled_events, sheet
from tests.refusing import RefusalCase


class BackTest(RefusalCase):
    def assert_taken_back(self, book, deed, *given):
        """The deed is one, and taken back it leaves all as it was; then it can be done anew."""
        before = book_told(book)
        deed(*given)
        behind = book_told(book)
        self.assertEqual(behind["many"], before["many"] + 1)
        self.assertIsNone(book.back())
        self.assertEqual(book_told(book), before)
        deed(*given)
        self.assertEqual(book_told(book), behind)

    def test_none_to_take_back(self):
        book = Book()
        self.assert_refused(NoBack, {}, book.back)
        book.take(edition(1, PLACE))
        book.back()
        before = book_told(book)
        self.assert_refused(NoBack, {}, book.back)
        self.assertEqual(book_told(book), before)
        self.assertEqual(before, book_told(Book()))

    def test_each_kind_of_deed(self):
        book = Book()
        self.assert_taken_back(book, book.take, sheet("ann", 1, 1, first="p", second="q"))
        self.assert_taken_back(book, book.take, edition(1, One("first", ["p", "q"]), One("second", ["p", "q"])))
        self.assert_taken_back(book, book.take, ("back", "ann", 1))
        self.assert_taken_back(book, book.merge, book_with([[3, 4], [5, 6]]).box())
        self.assert_taken_back(book, book.tell, "mine", "first", "second")
        self.assert_taken_back(book, book.take, filler("more", "p", "p"))
        self.assert_taken_back(book, book.retell, "mine")
        self.assert_taken_back(book, book.retell, "mine")
        self.assert_taken_back(book, book.drop, "mine")
        self.assert_taken_back(book, book.tell, "mine", "second", "first")
        for many in range(book.many(), 0, -1):
            self.assertEqual(book.many(), many)
            book.back()
        self.assertEqual(book_told(book), book_told(Book()))
        self.assert_refused(NoBack, {}, book.back)

    def test_an_edition_taken_back_may_be_another_one(self):
        book = Book()
        book.take(edition(1, PLACE))
        book.take(edition(2, PET))
        book.back()
        self.assertEqual(book.box().edition(), 1)
        book.take(edition(2, PLACE, PET))
        self.assertEqual(book.box().edition(), 2)
        self.assertRaises(Unlike, book.take, edition(2, PET))

    def test_an_event_taken_back_is_new_again(self):
        book = Book()
        for times in range(3):
            book.take(sheet("ann", 1, 1))
            self.assertEqual((book.many(), book.box().events()), (1, 1))
            book.back()
            self.assertEqual((book.many(), book.box().events()), (0, 0))

    def test_a_merge_is_taken_back_as_one_without_what_came_ahead_of_it(self):
        book = Book()
        book.take(edition(1, PLACE))
        book.take(sheet("ann", 1, 1, place="flat"))
        before = book_told(book)
        book.merge(box_of(
            sheet("bob", 1, 1, place="tent"), edition(1, PLACE), ("back", "ann", 1), sheet("ann", 1, 1, place="flat")))
        self.assertEqual(book.box().all_counted(), {"bob": {("place", 0): "tent"}})
        book.back()
        self.assertEqual(book_told(book), before)

    def test_what_is_no_deed_is_not_taken_back(self):
        book = book_with([[3, 4], [5, 6]])
        book.tell("mine", "first", "second")
        before = book_told(book)
        book.take(filler("more", "p", "p"))
        book.take(filler("more", "p", "p"))
        book.merge(book.box())
        book.merge(Box())
        self.assertRaises(HallError, book.tell, "mine", "first", "second")
        self.assertRaises(HallError, book.drop, "other")
        self.assertRaises(HallError, book.take, ())
        book.tried(filler("much", "p", "p"), "first", "second")
        book.stale()
        book.back()
        self.assertEqual(book_told(book), before)

    def test_a_table_taken_back_is_told_as_it_was(self):
        book = book_with([[3, 4], [5, 6]])
        first = vars(book.tell("mine", "first", "second"))
        book.take(filler("more", "p", "p"))
        second = vars(book.retell("mine"))
        book.drop("mine")
        book.tell("mine", "second", "first")
        book.back()
        self.assertEqual(book.names(), [])
        book.back()
        self.assertEqual(vars(book.table("mine")), second)
        self.assertEqual(book.stale(), [])
        book.back()
        self.assertEqual(vars(book.table("mine")), first)
        self.assertEqual(book.stale(), ["mine"])
        book.back()
        self.assertEqual(book.stale(), [])
        # The questions are those of the table that stands again.
        self.assertEqual(vars(book.retell("mine")), first)

    def test_a_box_handed_out_stays_when_deeds_are_taken_back(self):
        book = Book()
        book.take(edition(1, PLACE))
        book.take(sheet("ann", 1, 1, place="flat"))
        box = book.box()
        book.back()
        book.back()
        self.assertEqual(box.stands("ann")[0], "counted")
        self.assertEqual(book.box().people(), [])


class MadeDeedsTest(RefusalCase):
    """Deeds that are made, some taken back: the book tells as one with just the standing deeds done."""

    def made_deed(self, chance, events):
        """The name of a method and what is handed in, most times not refused."""
        word = chance.choice(("take", "take", "take", "merge", "tell", "tell", "retell", "drop"))
        if word == "take":
            return word, (chance.choice(events),)
        if word == "merge":
            return word, (box_of(*chance.sample(events, 5)),)
        if word == "tell":
            return word, (chance.choice("abcde"), *chance.choice((("first", "second"), ("second", "first"))))
        return word, (chance.choice("abcde"),)

    def test_as_with_the_same_deeds_standing(self):
        for seed in range(25):
            chance = random.Random(seed)
            events = polled_events(seed, 40)
            book = Book(few=2, width=1)
            standing = []
            for times in range(60):
                if chance.random() < 0.25:
                    self.assert_back(book, standing)
                else:
                    self.assert_done(book, standing, *self.made_deed(chance, events))
            again = Book(few=2, width=1)
            for word, given, ahead in standing:
                self.assertEqual(book_told(again), ahead)
                getattr(again, word)(*given)
            self.assertEqual(book_told(again), book_told(book))
            while standing:
                self.assert_back(book, standing)

    def assert_done(self, book, standing, word, given):
        """A deed is many more by one, or else changes nothing."""
        ahead = book_told(book)
        try:
            getattr(book, word)(*given)
        except HallError:
            self.assertEqual(book_told(book), ahead)
        if book.many() > ahead["many"]:
            self.assertEqual(book.many(), ahead["many"] + 1)
            standing.append((word, given, ahead))
        else:
            self.assertEqual(book_told(book), ahead)

    def assert_back(self, book, standing):
        """The last deed is taken back, or there is none."""
        if not standing:
            self.assert_refused(NoBack, {}, book.back)
        else:
            book.back()
            self.assertEqual(book_told(book), standing.pop()[2])


if __name__ == "__main__":
    unittest.main()
