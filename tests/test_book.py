"""Books: [22] but for what back takes back, and the interface's line for skiphall/book.py."""

import inspect
import unittest

from skiphall.book import Book
from skiphall.boxes import Box
from skiphall.conds import Is, Not
from skiphall.errors import (
    BadCount, NoEdition, NoEvent, NoFit, NoName, NoQuestion, NoTable, Twice, Unlike, Unsafe,
)
from skiphall.forms import Number, One
from skiphall.hides import Told, told
from tests.booking import book_told, book_with, filler
from tests.boxing import PET, PLACE, all_told, box_of, edition, sheet
from tests.refusing import RefusalCase


class BookTest(RefusalCase):
    def test_few_and_width_if_they_are_not_handed_in(self):
        arguments = inspect.signature(Book).parameters
        self.assertEqual((arguments["few"].default, arguments["width"].default), (3, 2))
        self.assertRaises(TypeError, Book, 3, 2)

    def test_few_and_width_are_refused_when_it_is_made(self):
        for few in (1, 0, -7):
            for width in (2, 0, -7):
                self.assert_refused(BadCount, {"what": "few", "count": few}, Book, few=few, width=width)
        for width in (0, -1):
            self.assert_refused(BadCount, {"what": "width", "count": width}, Book, few=2, width=width)
            self.assert_refused(BadCount, {"what": "width", "count": width}, Book, width=width)
        self.assert_refused(BadCount, {"what": "few", "count": 1}, Book, few=1)
        Book(few=2, width=1)

    def test_a_new_one_is_empty(self):
        book = Book()
        self.assertEqual((book.names(), book.stale(), book.many()), ([], [], 0))
        self.assertEqual(all_told(book.box()), all_told(Box()))

    def test_its_box_is_the_asker_s_own(self):
        book = book_with([[3, 4], [5, 6]])
        before = book_told(book)
        box = book.box()
        self.assertIsInstance(box, Box)
        box.take(("back", "pp0", 1))
        box.take(edition(2, PET))
        self.assertEqual(book_told(book), before)
        self.assertEqual(box.events(), book.box().events() + 2)

    def test_take_as_of_boxes(self):
        book = Book()
        self.assertIsNone(book.take(edition(1, PLACE, PET)))
        self.assertIsNone(book.take(event=sheet("ann", 1, 1, place="flat", pet="dog")))
        self.assertEqual(book.many(), 2)
        self.assertEqual(book.box().stands("ann"), ("counted", {("place", 0): "flat", ("pet", 0): "dog"}))

    def test_events_that_came_are_no_deeds(self):
        book = Book()
        for many, event in enumerate((edition(1, PLACE), sheet("ann", 1, 1, place="flat"), ("back", "bob", 2)), 1):
            for times in range(3):
                book.take(event)
                self.assertEqual(book.many(), many)

    def test_merge_as_of_boxes(self):
        book = Book()
        box = box_of(edition(1, PLACE), sheet("ann", 1, 1, place="flat"), ("back", "bob", 1))
        self.assertIsNone(book.merge(box))
        self.assertEqual(all_told(book.box()), all_told(box))
        self.assertEqual(book.many(), 1)
        book.merge(box=box)
        book.merge(Box())
        book.merge(book.box())
        self.assertEqual(book.many(), 1)
        box.take(sheet("cid", 1, 1, place="tent"))
        self.assertEqual(book.box().people(), ["ann", "bob"])
        book.merge(box)
        self.assertEqual(book.many(), 2)
        book.take(sheet("dot", 1, 1, place="tent"))
        self.assertEqual(box.people(), ["ann", "bob", "cid"])

    def test_take_and_merge_refused_as_of_boxes(self):
        book = book_with([[3, 4], [5, 6]])
        book.take(edition(3, PET))
        before = book_told(book)
        for kind, fields, event in (
            (NoEvent, {"word": ""}, ()),
            (NoEvent, {"word": "sheet"}, ("sheet", "Ann")),
            (NoName, {"name": "Ann"}, ("back", "Ann", 0)),
            (BadCount, {"what": "number", "count": 0}, ("back", "ann", 0)),
            (BadCount, {"what": "edition", "count": 0}, ("sheet", "ann", 1, 0, {})),
            (Unlike, {"number": 3}, edition(3, PLACE)),
        ):
            self.assert_refused(kind, fields, book.take, event)
        other = box_of(edition(3, PLACE), edition(1, PLACE), ("back", "ann", 1))
        self.assert_refused(Unlike, {"number": 1}, book.merge, other)
        self.assertEqual(book_told(book), before)


class TablesTest(RefusalCase):
    def test_tell_keeps_and_tells(self):
        book = book_with([[1, 9, 9], [8, 7, 5], [8, 7, 5]])
        many = book.many()
        table = book.tell("mine", "first", "second")
        self.assertIsInstance(table, Told)
        self.assertEqual(vars(table), vars(told(book.box(), "first", "second", few=3, width=2)))
        self.assertEqual(vars(book.table("mine")), vars(table))
        self.assertEqual(book.many(), many + 1)

    def test_by_its_few_and_width(self):
        box = book_with([[3, 5], [5, 9]]).box()
        for few, width in ((2, 1), (4, 2), (4, 8), (4, 9), (6, 3)):
            book = Book(few=few, width=width)
            book.merge(box)
            wanted = vars(told(box, "first", "second", few=few, width=width))
            self.assertEqual(vars(book.tell("mine", "first", "second")), wanted)
            self.assertEqual(vars(book.tried(("back", "nobody", 1), "first", "second")), wanted)
            self.assertEqual(vars(book.retell("mine")), wanted)
            self.assertEqual(book.stale(), [])

    def test_names_are_sorted(self):
        book = book_with([[3, 4], [5, 6]])
        for name in ("t9", "b", "t10", "a"):
            book.tell(name, "first", "second")
        self.assertEqual(book.names(), ["a", "b", "t10", "t9"])

    def test_what_was_told_stays(self):
        book = book_with([[3, 4], [5, 6]])
        before = vars(book.tell("mine", "first", "second"))
        book.take(filler("more", "p", "p"))
        self.assertEqual(vars(book.table("mine")), before)
        self.assertNotEqual(vars(book.tell("more", "first", "second")), before)

    def test_lists_of_a_told_are_the_asker_s_own(self):
        book = book_with([[1, 9, 9], [8, 7, 5], [8, 7, 5]])
        wanted = vars(book.tell("mine", "first", "second"))
        book.tell("copy", "first", "second")
        deeds = (
            lambda: book.table("mine"),
            lambda: book.retell("mine"),
            lambda: book.tried(("back", "nobody", 1), "first", "second"),
            lambda: book.retell("copy"),
        )
        for deed in deeds:
            table = deed()
            table.shown[0].clear()
            table.shown.pop()
            table.rows.clear()
            table.columns.append("z")
            table.secret.clear()
            self.assertEqual(vars(book.table("mine")), wanted)
            self.assertEqual(vars(book.table("copy")), wanted)
            self.assertEqual(book.stale(), [])
        book.names().clear()
        self.assertEqual(book.names(), ["copy", "mine"])

    def test_the_told_of_tell_is_the_asker_s_own(self):
        book = book_with([[1, 9, 9], [8, 7, 5], [8, 7, 5]])
        table = book.tell("mine", "first", "second")
        for worth in (table.shown[0], table.shown, table.rows, table.columns, table.secret):
            worth.clear()
        self.assertEqual(book.stale(), [])
        self.assertEqual(book.table("mine").shown[0], [None, 9, None, 19])

    def test_drop_tells_nothing(self):
        book = book_with([[3, 4], [5, 6]])
        book.tell("mine", "first", "second")
        many = book.many()
        self.assertIsNone(book.drop("mine"))
        self.assertEqual((book.names(), book.many()), ([], many + 1))
        self.assert_refused(NoTable, {"name": "mine"}, book.table, "mine")
        book.tell("mine", "second", "first")
        self.assertEqual(book.table("mine").shown[0], [3, 5, 8])

    def test_retell_of_the_same_questions(self):
        book = book_with([[3, 4], [5, 6]])
        book.tell("mine", "second", "first")
        many = book.many()
        book.take(filler("more", "p", "q"))
        self.assertEqual(book.retell("mine").shown, [[3, 5, 8], [5, 6, 11], [8, 11, 19]])
        self.assertEqual(book.table("mine").shown[1][0], 5)
        self.assertEqual(book.many(), many + 2)

    def test_retell_is_a_deed_also_where_it_is_told_alike(self):
        book = book_with([[3, 4], [5, 6]])
        before = vars(book.tell("mine", "first", "second"))
        many = book.many()
        self.assertEqual(vars(book.retell(name="mine")), before)
        self.assertEqual(book.many(), many + 1)

    def test_by_the_names_of_the_arguments(self):
        book = book_with([[3, 4], [5, 6]])
        book.tell(name="mine", first="first", second="second")
        self.assertEqual(book.table(name="mine").shown, [[3, 4, 7], [5, 6, 11], [8, 10, 18]])
        tried = book.tried(event=filler("more", "p", "p"), first="second", second="first")
        self.assertEqual(tried.shown[0], [4, 5, 9])
        book.drop(name="mine")


class TablesRefusedTest(RefusalCase):
    def assert_kept(self, kind, fields, book, deed, *given):
        before = book_told(book)
        self.assert_refused(kind, fields, deed, *given)
        self.assertEqual(book_told(book), before)

    def test_names_that_are_none_ahead_of_all(self):
        book = book_with([[3, 4], [5, 6]])
        for name in ("", "Mine", "a b", "abcdefghi"):
            self.assert_kept(NoName, {"name": name}, book, book.tell, name, "nobody", "nobody")
        for name in "abcd":
            book.tell(name, "first", "second")
        self.assert_kept(NoName, {"name": "E"}, book, book.tell, "E", "first", "second")
        self.assert_kept(NoName, {"name": "E"}, Book(), Book().tell, "E", "first", "second")

    def test_a_name_that_stands_ahead_of_the_count(self):
        book = book_with([[3, 4], [5, 6]])
        book.tell("a", "first", "second")
        self.assert_kept(Twice, {"name": "a"}, book, book.tell, "a", "second", "first")
        self.assert_kept(Twice, {"name": "a"}, book, book.tell, "a", "nobody", "nobody")
        for name in "bcd":
            book.tell(name, "first", "second")
        self.assert_kept(Twice, {"name": "d"}, book, book.tell, "d", "first", "second")

    def test_four_stand(self):
        book = book_with([[3, 4], [5, 6]])
        for name in "abcd":
            book.tell(name, "first", "second")
        fields = {"what": "tables", "count": 5}
        self.assert_kept(BadCount, fields, book, book.tell, "e", "first", "second")
        self.assert_kept(BadCount, fields, book, book.tell, "e", "nobody", "nobody")
        book.drop("b")
        book.tell("e", "first", "second")
        self.assert_kept(BadCount, fields, book, book.tell, "f", "first", "second")

    def test_as_told_refuses(self):
        book = book_with([[1]], Number("number", 0, 1, where=Not(Is("first", "p"))))
        for kind, fields, first, second in (
            (NoQuestion, {"name": "nobody"}, "nobody", "other"),
            (NoFit, {"name": "number"}, "number", "number"),
            (Twice, {"name": "first"}, "first", "first"),
            (Unsafe, {"cell": (0, 0)}, "first", "second"),
        ):
            self.assert_kept(kind, fields, book, book.tell, "mine", first, second)
            self.assert_kept(kind, fields, book, book.tried, ("back", "nobody", 1), first, second)
        book = Book()
        self.assert_kept(NoEdition, {}, book, book.tell, "mine", "first", "first")

    def test_no_table(self):
        book = book_with([[3, 4], [5, 6]])
        book.tell("mine", "first", "second")
        for name in ("other", "", "No Name", "first", "min"):
            for deed in (book.table, book.retell, book.drop):
                self.assert_kept(NoTable, {"name": name}, book, deed, name)

    def test_retell_refuses_as_told(self):
        book = book_with([[3, 4], [5, 6]])
        book.tell("mine", "first", "second")
        book.take(("edition", edition(2, One("first", ["p", "q"]), PET)[1]))
        self.assert_kept(NoQuestion, {"name": "second"}, book, book.retell, "mine")
        book = book_with([[1, 0], [0, 0]])
        book.back()
        book.tell("mine", "first", "second")
        book.take(filler("pp0", "p", "p"))
        self.assert_kept(Unsafe, {"cell": (0, 0)}, book, book.retell, "mine")
        self.assertEqual(book.table("mine").shown, [[0, 0, 0]] * 3)


class StaleTest(unittest.TestCase):
    def test_by_a_changed_cell(self):
        book = book_with([[3, 4], [5, 6]])
        book.tell("b", "first", "second")
        book.tell("a", "second", "first")
        self.assertEqual(book.stale(), [])
        book.take(filler("more", "p", "p"))
        self.assertEqual(book.stale(), ["a", "b"])
        book.retell("b")
        self.assertEqual(book.stale(), ["a"])
        book.take(("back", "more", 1))
        self.assertEqual(book.stale(), ["b"])

    def test_by_other_options(self):
        book = book_with([[3, 4], [5, 6]])
        book.tell("one", "first", "second")
        book.tell("two", "second", "first")
        book.take(edition(2, *[One(name, ["x", "y"]) for name in ("first", "second")]))
        self.assertEqual(book.stale(), ["one", "two"])
        for name in ("one", "two"):
            book.retell(name)
        self.assertEqual(book.table("one").shown, [[0, 0, 0]] * 3)
        self.assertEqual(book.stale(), [])

    def test_by_secret_cells_alone(self):
        # One more in two of the hidden cells, one less in the others: all that is shown stays.
        book = book_with([[2, 9, 4], [8, 7, 8], [4, 7, 3]])
        before = book.tell("mine", "first", "second")
        for who, first, second in (("pp0", "p", "r"), ("rr0", "r", "p")):
            book.take(("sheet", who, 2, 1, {("first", 0): first, ("second", 0): second}))
        now = book.tried(("back", "nobody", 1), "first", "second")
        self.assertEqual((now.shown, now.rows, now.columns), (before.shown, before.rows, before.columns))
        self.assertEqual((before.secret, now.secret), ([(0, 0)], [(0, 0), (2, 2)]))
        self.assertEqual(book.stale(), ["mine"])

    def test_by_names_of_options_alone(self):
        book = Book()
        book.take(edition(1, One("first", ["p", "q"]), One("second", ["p", "q"])))
        book.tell("one", "first", "second")
        book.tell("two", "second", "first")
        book.take(edition(2, One("first", ["p", "q"]), One("second", ["p", "x"])))
        self.assertEqual(book.stale(), ["one", "two"])
        book.retell("two")
        self.assertEqual(book.stale(), ["one"])
        self.assertEqual(book.table("two").rows, ["p", "x"])

    def test_by_a_refusal(self):
        book = book_with([[3, 4], [5, 6]])
        book.tell("mine", "first", "second")
        book.take(edition(2, PLACE, PET))
        self.assertEqual(book.stale(), ["mine"])
        book.tell("other", "place", "pet")
        self.assertEqual(book.stale(), ["mine"])

    def test_an_event_that_changes_no_table(self):
        book = book_with([[3, 4], [5, 6]])
        book.tell("mine", "first", "second")
        for event in (("back", "nobody", 1), edition(3, PLACE), filler("lost", "p", "zz"), ("sheet", "ann", 1, 9, {})):
            book.take(event)
            self.assertEqual(book.stale(), [])

    def test_asking_changes_nothing(self):
        book = book_with([[3, 4], [5, 6]])
        book.tell("mine", "first", "second")
        book.take(filler("more", "p", "p"))
        before = book_told(book)
        book.stale().clear()
        self.assertEqual(book_told(book), before)


class TriedTest(RefusalCase):
    def test_what_would_be_told(self):
        book = book_with([[3, 4], [5, 6]])
        book.tell("mine", "first", "second")
        before = book_told(book)
        other_options = edition(2, One("first", ["p"]), One("second", ["q"]))
        for event in (filler("more", "p", "p"), ("back", "pp0", 1), other_options):
            table = book.tried(event, "first", "second")
            self.assertEqual(book_told(book), before)
            other = book.box()
            other.take(event)
            self.assertEqual(vars(table), vars(told(other, "first", "second", few=3, width=2)))

    def test_an_event_that_came(self):
        book = book_with([[3, 4], [5, 6]])
        before = book_told(book)
        self.assertEqual(book.tried(filler("pp0", "p", "p"), "first", "second").shown[0], [3, 4, 7])
        self.assertEqual(book_told(book), before)

    def test_refused_as_take_then_as_told(self):
        book = book_with([[3, 4], [5, 6]])
        book.tell("mine", "first", "second")
        before = book_told(book)
        for kind, fields, event, first, second in (
            (NoEvent, {"word": "x"}, ("x",), "nobody", "nobody"),
            (NoName, {"name": "Ann"}, ("back", "Ann", 1), "nobody", "nobody"),
            (BadCount, {"what": "number", "count": 0}, ("back", "ann", 0), "nobody", "nobody"),
            (Unlike, {"number": 1}, edition(1, PET), "first", "second"),
            (NoQuestion, {"name": "nobody"}, filler("more", "p", "p"), "nobody", "first"),
            (NoQuestion, {"name": "first"}, edition(2, PET), "first", "second"),
            (Twice, {"name": "first"}, filler("more", "p", "p"), "first", "first"),
        ):
            self.assert_refused(kind, fields, book.tried, event, first, second)
            self.assertEqual(book_told(book), before)

    def test_unsafe(self):
        book = book_with([[0, 0], [0, 0]])
        before = book_told(book)
        self.assert_refused(Unsafe, {"cell": (1, 1)}, book.tried, filler("qq0", "q", "q"), "first", "second")
        self.assertEqual(book_told(book), before)


if __name__ == "__main__":
    unittest.main()
