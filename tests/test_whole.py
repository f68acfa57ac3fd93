"""What holds over the whole program: [1] and [2], and the desk's answers against what the modules tell."""

import random
import unittest

from skiphall.book import Book
from skiphall.boxes import Box
from skiphall.desk import Desk
from skiphall.errors import HallError
from skiphall.formtexts import form_rows
from skiphall.texts import answers_row
from tests.booking import book_told
from tests.boxing import all_told, box_of, made_events, polled_events
from tests.making import NO_ANSWERS

ASKING = ("people", "names", "stale", "clashes", "form", "number")


def row_of(event):
    """The row that tells an event to a desk."""
    if event[0] == "edition":
        edition = event[1]
        form = " ; ".join(form_rows(edition.form))
        if edition.calls:
            return f"called {edition.number} " + ",".join(".".join(pair) for pair in edition.calls) + " " + form
        return f"edition {edition.number} {form}"
    if event[0] == "sheet":
        word, who, number, edition, answers = event
        return f"sheet {who} {number} {edition} {answers_row(answers)}"
    return f"taken {event[1]} {event[2]}"


def can_be_written(event):
    """Whether a row can tell an event: all answers of it are some that rows have."""
    return event[0] != "sheet" or all(
        answer not in NO_ANSWERS or answer in ((), -9, 99) for answer in event[4].values())


def desk_told(desk, people):
    """All that a desk's asking rows tell."""
    return [desk.tell(row) for row in ASKING] + [desk.tell("stands " + who) for who in people]


class AnyOrderTest(unittest.TestCase):
    def test_desks_tell_the_same_in_whatever_order_rows_come(self):
        chance = random.Random(41)
        for seed in range(40):
            events = [event for event in made_events(seed, 20) if can_be_written(event)]
            rows = [row_of(event) for event in events]
            people = box_of(*events).people() + ["nobody"]
            wanted = None
            for times in range(3):
                desk = Desk()
                for row in rows + chance.sample(rows, len(rows) // 2):
                    self.assertEqual(desk.tell(row), ["done"])
                wanted = wanted or desk_told(desk, people)
                self.assertEqual(desk_told(desk, people), wanted)
                chance.shuffle(rows)

    def test_a_desk_tells_what_a_box_tells(self):
        for seed in range(40):
            events = [event for event in made_events(seed, 20) if can_be_written(event)]
            box, desk = box_of(*events), Desk()
            for event in events:
                desk.tell(row_of(event))
            self.assertEqual(desk.tell("people"), box.people())
            self.assertEqual(desk.tell("number"), [str(box.edition())])
            self.assertEqual(desk.tell("clashes"), [f"{who} {number}" for who, number in box.clashes()])
            counted = box.all_counted()
            for who in box.people():
                told = desk.tell("stands " + who)
                self.assertEqual(len(told), 1)
                self.assertEqual(told[0].split(" ")[0], box.stands(who)[0])
                if who in counted:
                    self.assertEqual(told, ["counted " + answers_row(counted[who])])

    def test_tables_are_told_alike_in_whatever_order_events_come(self):
        chance = random.Random(42)
        for seed in range(20):
            events = polled_events(seed, 50)
            tables = []
            for times in range(3):
                book, box = Book(), Box()
                for event in events:
                    (book if chance.random() < 0.5 else box).take(event)
                book.merge(box)
                try:
                    tables.append(vars(book.tell("mine", "first", "second")))
                except HallError as refusal:
                    tables.append((refusal.told(), vars(refusal)))
                chance.shuffle(events)
            self.assertEqual(tables[1:], tables[:1] * 2)

    def test_told_anew_behind_other_events_is_as_told_first(self):
        events = polled_events(7, 50)
        first, second = Book(few=2, width=1), Book(few=2, width=1)
        first.take(next(event for event in events if event[0] == "edition" and event[1].number == 1))
        first.tell("mine", "first", "second")
        for event in events:
            first.take(event)
            second.take(event)
        self.assertEqual(vars(first.retell("mine")), vars(second.tell("mine", "first", "second")))


class AlikeTest(unittest.TestCase):
    def test_what_is_told_twice_is_told_alike(self):
        for seed in range(10):
            book = Book(few=2, width=1)
            for event in polled_events(seed, 40):
                book.take(event)
            book.tell("mine", "first", "second")
            self.assertEqual(book_told(book), book_told(book))
            self.assertEqual(all_told(book.box()), all_told(book.box()))

    def test_rows_that_are_no_rows_are_answered(self):
        chance = random.Random(43)
        words = (
            "edition called sheet taken table stands back form 1 0 01 ann a.b none one a of x ; end section a.0=x "
            "? where is rounds number not (").split(" ") + [""]
        desk = Desk()
        for times in range(3000):
            row = " ".join(chance.choice(words) for part in range(chance.randint(0, 8)))
            told = desk.tell(row)
            self.assertIsInstance(told, list)
            for text in told:
                self.assertIsInstance(text, str)


if __name__ == "__main__":
    unittest.main()
