"""Rows that a desk answers: [25], [26] and the interface's line for skiphall/desk.py."""

import inspect
import unittest

from skiphall.desk import Desk
from skiphall.errors import BadCount
from tests.refusing import RefusalCase
from tests.samples import household_rows

QUESTIONS = "one place of flat tent ; one pet of cat dog"


def told_all(desk):
    """All that a desk's asking rows tell, of ann and bob too."""
    rows = ("people", "names", "stale", "clashes", "form", "number", "stands ann", "stands bob")
    return [desk.tell(row) for row in rows]


def desk_of(*rows, **named):
    """A desk that was told these rows, each of which is done."""
    desk = Desk(**named)
    for row in rows:
        if desk.tell(row) != ["done"]:
            raise AssertionError(row)
    return desk


def sheets_with(cells):
    """The rows of sheets by which the cells of options of place and pet have these numbers."""
    rows = []
    for first, numbers in zip(("flat", "tent"), cells):
        for second, number in zip(("cat", "dog"), numbers):
            for at in range(number):
                rows.append(f"sheet {first[0]}{second[0]}{at} 1 1 place.0={first} pet.0={second}")
    return rows


class DeskCase(RefusalCase):
    def assert_told(self, desk, row, wanted):
        told = desk.tell(row)
        self.assertEqual(told, wanted)
        self.assertIsInstance(told, list)

    def assert_refused_row(self, desk, row, word):
        """The row is refused so, and changes nothing: behind it the last deed is the one that was the last ahead."""
        before = told_all(desk)
        self.assert_told(desk, row, ["refused " + word])
        self.assertEqual(told_all(desk), before)


class MadeTest(RefusalCase):
    def test_refused_as_a_book(self):
        self.assert_refused(BadCount, {"what": "few", "count": 1}, Desk, few=1, width=0)
        self.assert_refused(BadCount, {"what": "few", "count": 0}, Desk, few=0)
        self.assert_refused(BadCount, {"what": "width", "count": 0}, Desk, width=0)
        self.assertRaises(TypeError, Desk, 3, 2)

    def test_few_and_width_if_they_are_not_handed_in(self):
        arguments = inspect.signature(Desk).parameters
        self.assertEqual((arguments["few"].default, arguments["width"].default), (3, 2))

    def test_by_its_few_and_width(self):
        rows = ["edition 1 " + QUESTIONS] + sheets_with([[3, 5], [5, 9]])
        self.assertEqual(desk_of(*rows).tell("table mine place pet")[1], "flat 3 5 8")
        self.assertEqual(desk_of(*rows, few=4).tell("table mine place pet")[1], "flat ? ? 8")
        self.assertEqual(desk_of(*rows, few=4, width=9).tell("table mine place pet")[1], "flat ? ? ?")


class EventRowsTest(DeskCase):
    def test_an_edition(self):
        desk = Desk()
        self.assert_told(desk, "number", ["0"])
        self.assert_told(desk, "edition 1 one place of flat", ["done"])
        self.assert_told(desk, "number", ["1"])
        self.assert_told(desk, "form", ["one place of flat"])
        self.assert_told(desk, "edition 999999 one place of flat", ["done"])
        self.assert_told(desk, "number", ["1"])

    def test_a_form_of_several_rows(self):
        desk = Desk()
        self.assert_told(desk, "edition 1 " + " ; ".join(household_rows()), ["done"])
        self.assert_told(desk, "form", household_rows())

    def test_an_edition_with_calls(self):
        desk = desk_of(
            "edition 1 one a of x y ; one b of x y",
            "sheet ann 1 1 a.0=x b.0=y",
            "called 2 a.b,b.a one a of x y ; one b of x y",
        )
        self.assert_told(desk, "stands ann", ["counted a.0=y b.0=x"])
        self.assert_told(desk, "called 3 b.c one c of x y", ["done"])
        self.assert_told(desk, "stands ann", ["counted c.0=x"])

    def test_sheets(self):
        desk = desk_of("edition 1 number n 0 4 ; rounds n ; some p of cat dog ; end ; number m -9 9")
        for row in (
            "sheet ann 1 1 n.0=2 p.1=+ p.2=+cat+dog m.0=-3",
            "sheet bob 1 1 m.0=0 n.0=0 z.7=+q+q1",
            "sheet cid 1 1 none",
            "sheet dot 999999 999999 none",
        ):
            self.assert_told(desk, row, ["done"])
        self.assert_told(desk, "stands ann", ["counted m.0=-3 n.0=2 p.1=+ p.2=+cat+dog"])
        self.assert_told(desk, "stands bob", ["counted m.0=0 n.0=0"])
        self.assert_told(desk, "stands cid", ["open n.0"])
        self.assert_told(desk, "stands dot", ["ahead 999999"])

    def test_taken(self):
        desk = desk_of("edition 1 one a of x", "sheet ann 3 1 a.0=x")
        self.assert_told(desk, "taken ann 2", ["done"])
        self.assert_told(desk, "stands ann", ["counted a.0=x"])
        self.assert_told(desk, "taken ann 3", ["done"])
        self.assert_told(desk, "stands ann", ["back"])
        self.assert_told(desk, "taken ann 999999", ["done"])

    def test_what_came_already_is_done_too(self):
        desk = Desk()
        for row in ("edition 1 one a of x", "sheet ann 1 1 a.0=x", "taken bob 1"):
            self.assert_told(desk, row, ["done"])
            self.assert_told(desk, row, ["done"])
        for times in range(3):
            self.assert_told(desk, "back", ["done"])
        self.assert_told(desk, "back", ["refused noback"])


class TableRowsTest(DeskCase):
    def test_table_and_retell(self):
        desk = desk_of("edition 1 " + QUESTIONS, *sheets_with([[3, 0], [4, 10]]))
        wanted = ["cat dog all", "flat 3 0 3", "tent 4 10 14", "all 7 10 17"]
        self.assert_told(desk, "table mine place pet", wanted)
        self.assert_told(desk, "table turned pet place", [
            "flat tent all", "cat 3 4 7", "dog 0 10 10", "all 3 14 17"])
        self.assert_told(desk, "names", ["mine", "turned"])
        self.assert_told(desk, "stale", [])
        self.assert_told(desk, "retell mine", wanted)
        desk.tell("sheet ann 1 1 place.0=flat pet.0=dog")
        self.assert_told(desk, "stale", ["mine", "turned"])
        self.assert_told(desk, "retell mine", ["cat dog all", "flat ? ? 4", "tent ? ? 14", "all 7 11 18"])
        self.assert_told(desk, "stale", ["turned"])

    def test_hidden_sums(self):
        desk = desk_of(
            "edition 1 one a of x y z ; one b of x y",
            *[f"sheet w{at} 1 1 a.0={first} b.0={second}" for at, (first, second) in enumerate(
                ["xx"] * 5 + ["xy"] * 6 + ["yx"] * 1 + ["zx"] * 7 + ["zy"] * 8)])
        told = desk.tell("table mine a b")
        self.assertEqual(told[0], "x y all")
        self.assertEqual([row.split(" ")[0] for row in told[1:]], ["x", "y", "z", "all"])
        self.assertEqual(told[2].split(" ")[1], "?")
        self.assertEqual(told[2].split(" ")[3], "?")
        self.assertEqual(told[4].split(" ")[3], "27")

    def test_drop(self):
        desk = desk_of("edition 1 " + QUESTIONS)
        desk.tell("table mine place pet")
        self.assert_told(desk, "drop mine", ["done"])
        self.assert_told(desk, "names", [])
        self.assert_told(desk, "drop mine", ["refused notable"])

    def test_back_of_each_deed(self):
        desk = Desk()
        rows = (
            "edition 1 " + QUESTIONS,
            "sheet ann 1 1 place.0=flat pet.0=cat",
            "taken ann 1",
            "called 2 pet.pets one place of flat tent ; one pets of cat dog",
            "table mine place pets",
            "sheet bob 1 1 place.0=flat",
            "retell mine",
            "drop mine",
        )
        states = []
        for row in rows:
            states.append(told_all(desk))
            self.assertFalse(desk.tell(row)[0].startswith("refused"))
        for state in reversed(states):
            self.assert_told(desk, "back", ["done"])
            self.assertEqual(told_all(desk), state)
        self.assert_refused_row(desk, "back", "noback")


class AskingRowsTest(DeskCase):
    def test_stands(self):
        desk = desk_of(
            "edition 1 number n 0 4 ; rounds n ; number m 0 9 ; check c must m above 3 ; end",
            "sheet a 1 1 n.0=2 m.1=4 m.2=5", "sheet b 1 1 n.0=2 m.1=4", "sheet c 1 1 n.0=2 m.1=4 m.2=3",
            "sheet d 1 1 n.0=0", "taken d 1", "sheet e 1 12 none", "taken f 1",
        )
        for who, wanted in (
            ("a", "counted m.1=4 m.2=5 n.0=2"), ("b", "open m.2"), ("c", "barred c.2"), ("d", "back"),
            ("e", "ahead 12"), ("f", "none"), ("nobody", "none"), ("No", "none"), ("1", "none"), ("stands", "none"),
        ):
            self.assert_told(desk, "stands " + who, [wanted])

    def test_counted_where_little_is_asked(self):
        desk = desk_of("edition 1 number n 0 0 ; section where n above 0 ; one a of x ; end", "sheet ann 1 1 n.0=0")
        self.assert_told(desk, "stands ann", ["counted n.0=0"])

    def test_people(self):
        desk = Desk()
        self.assert_told(desk, "people", [])
        for row in ("sheet bob 1 1 none", "taken cid 1", "sheet ann 1 1 none", "sheet b10 1 1 none"):
            desk.tell(row)
        self.assert_told(desk, "people", ["ann", "b10", "bob", "cid"])

    def test_clashes(self):
        desk = Desk()
        self.assert_told(desk, "clashes", [])
        for row in ("sheet bob 2 1 none", "sheet bob 2 2 none", "sheet bob 10 1 none", "sheet bob 10 1 a.0=1",
                    "sheet ann 3 1 a.0=1", "sheet ann 3 1 a.0=2"):
            desk.tell(row)
        self.assert_told(desk, "clashes", ["ann 3", "bob 2", "bob 10"])

    def test_names_and_stale(self):
        desk = Desk()
        self.assert_told(desk, "names", [])
        self.assert_told(desk, "stale", [])

    def test_form_and_number(self):
        desk = Desk()
        self.assert_told(desk, "form", ["refused noedition"])
        self.assert_told(desk, "number", ["0"])
        desk.tell("edition 2 one b of x")
        self.assert_told(desk, "form", ["refused noedition"])
        desk.tell("edition 1 one a of x")
        self.assert_told(desk, "form", ["one b of x"])
        self.assert_told(desk, "number", ["2"])

    def test_the_lists_are_the_asker_s_own(self):
        desk = desk_of("edition 1 " + QUESTIONS, "sheet ann 1 1 none", "sheet ann 1 1 pet.0=cat")
        desk.tell("table mine place pet")
        before = told_all(desk)
        for row in ("people", "names", "stale", "clashes", "form", "number", "stands ann", "retell mine"):
            desk.tell(row).clear()
        self.assertEqual(told_all(desk), before)

    def test_by_the_name_of_the_argument(self):
        self.assertEqual(Desk().tell(row="number"), ["0"])


class BadRowTest(DeskCase):
    def desk(self):
        desk = desk_of("edition 1 " + QUESTIONS, "sheet ann 1 1 place.0=flat pet.0=cat", "taken bob 1")
        desk.tell("edition 2 " + QUESTIONS)
        return desk

    def assert_bad(self, row):
        with self.subTest(row):
            self.assert_refused_row(self.desk(), row, "badrow")

    def test_rows_that_are_none(self):
        for row in (
            "", " ", "x", "Edition 1 one a of x", "box", "take ann 1", "done", "refused badrow", "?",
            "tell number", "events", "merge", "many", "tried", "all_counted",
        ):
            self.assert_bad(row)

    def test_a_part_too_few(self):
        for row in (
            "edition", "edition 1", "called", "called 3", "called 3 pet.pets", "sheet", "sheet ann", "sheet ann 1",
            "sheet ann 1 1", "taken", "taken ann", "table", "table mine", "table mine place", "retell", "drop",
            "stands",
        ):
            self.assert_bad(row)

    def test_a_part_too_many(self):
        for row in (
            "taken ann 1 1", "table mine place pet pet", "retell mine mine", "drop mine mine", "back 1",
            "stands ann bob", "people all", "names all", "stale all", "clashes all", "form 1", "number 1",
            "sheet ann 1 1 none none", "sheet ann 1 1 1 none", "edition 3 3 one a of x",
            "called 3 a.b c.d one b of x",
        ):
            self.assert_bad(row)

    def test_an_empty_part(self):
        for row in (
            " number", "number ", "back ", " back", "stands ", "stands  ann", "stands ann ", "sheet  1 1 none",
            "sheet ann  1 none", "sheet ann 1 1  none", "sheet ann 1 1 none ", "sheet ann 1 1 a.0=x  b.0=x",
            "taken ann 1 ", "taken  1", "edition 3  one a of x", "edition 3 one a of x ", "edition 3 one a of  x",
            "edition 3 one a of x  ; one b of x", "edition 3 one a of x ;  one b of x", "edition  one a of x",
            "called 3  one b of x", "table mine place  pet", "table mine place ", "retell ", "drop  mine",
        ):
            self.assert_bad(row)

    def test_parts_in_another_order(self):
        for row in (
            "sheet 1 ann 1 none", "sheet ann 1 none 1", "sheet ann none 1 1", "taken 1 ann",
            "edition one a of x 3", "called a.b 3 one b of x", "called 3 one b of x a.b", "1 edition one a of x",
            "ann stands",
        ):
            self.assert_bad(row)

    def test_numbers_that_are_none(self):
        for number in ("01", "00", "-1", "-0", "+1", "1000000", "0000001", "x", "1x", "1.0", "1_0", "999999999999"):
            for row in (
                "edition {} one a of x", "called {} pet.a one a of x", "sheet ann {} 1 none",
                "sheet ann 1 {} none", "taken ann {}",
            ):
                self.assert_bad(row.format(number))

    def test_pairs_that_are_none(self):
        for pairs in (
            "pet", "pet.a.b", "pet.a,place", "pet.a,", ",pet.a", "pet.a,,place.b", ",", "pet.a;place.b",
            "petsa,x.y", "..", "a.b.c,d.e",
        ):
            self.assert_bad(f"called 3 {pairs} one a of x ; one b of x")

    def test_forms_that_cannot_be_read(self):
        for form in (
            "one", "one a", "one a of", "one a of x ; ", "one a of x ; end", "section ; one a of x", "two a of x",
            "one a of x; one b of x where", "; one a of x", "one a of x ; ; one b of x", "number n 0 01",
            "one a of x where a is", "one a of x where", "none", "one a of x ; rounds", "end", ";",
        ):
            self.assert_bad("edition 3 " + form)
            self.assert_bad("called 3 pet.a " + form)

    def test_answers_that_are_none(self):
        for answers in (
            "x", "a=x", "a.0", "a.0=", "a.0=X", "a.0=+x+x", "a.0=x a.0=x", "A.0=x", "a.01=x", "a.0=-0", "None",
            "none none", "a.0=1000000000000",
        ):
            self.assert_bad("sheet ann 2 1 " + answers)

    def test_a_row_is_read_whole_ahead_of_its_deed(self):
        for row in (
            "sheet Ann 0 0 x", "sheet Ann x 1 none", "sheet Ann 0 x none", "taken Ann x", "taken Ann 0 x",
            "table Mine nobody", "table Mine nobody nobody nobody", "drop nobody x", "retell nobody x",
            "edition 0 two a of x", "edition x one a of x ; one a of x", "called 0 a one a of x",
            "called 1 a one a of x ; one a of x", "called x A.B one a of x ; one a of x",
            "called 3 A.B two a of x",
        ):
            self.assert_bad(row)


class RefusedRowsTest(DeskCase):
    def desk(self):
        desk = desk_of("edition 1 " + QUESTIONS, "sheet ann 1 1 place.0=flat pet.0=cat", "taken bob 1")
        desk.tell("edition 2 " + QUESTIONS + " ; one five of a b c d e where pet is dog")
        return desk

    def assert_rows(self, word, *rows):
        for row in rows:
            with self.subTest(row):
                self.assert_refused_row(self.desk(), row, word)

    def test_as_the_form_refuses_ahead_of_what_the_edition_refuses(self):
        self.assert_rows(
            "badcount", "edition 3 one a of p q r s t u v", "edition 0 number n 1 0", "edition 3 section ; end")
        self.assert_rows(
            "noname", "edition 3 one A of x", "edition 0 one A of x", "edition 3 one a of X",
            "called 1 x.a one A of x", "called 3 x.y one A of x")
        self.assert_rows(
            "twice", "edition 3 one a of x ; one a of x", "edition 0 one a of x x", "called 1 p.q one a of x x")
        self.assert_rows("noquestion", "edition 0 one a of x where b is x", "called 3 P.Q one a of x where b is x")
        self.assert_rows(
            "nofit", "edition 3 one a of x ; one b of x where a is y",
            "edition 0 one a of x ; rounds a ; one b of x ; end")

    def test_as_the_edition_refuses(self):
        self.assert_rows(
            "badcount", "edition 0 one a of x", "called 0 a.b one b of x", "called 1 a.b one b of x",
            "called 0 A.B one b of x")
        self.assert_rows(
            "noname", "called 3 A.a one a of x", "called 3 a.A one a of x", "called 3 .a one a of x",
            "called 3 a. one a of x", "called 3 . one a of x", "called 3 a-b.a one a of x")
        self.assert_rows(
            "twice", "called 3 p.a,p.b one a of x ; one b of x", "called 3 p.a,q.a one a of x ; one b of x")
        self.assert_rows("noquestion", "called 3 p.c one a of x")

    def test_as_take_refuses(self):
        self.assert_rows("unlike", "edition 1 one a of x", "called 2 place.a one a of x", "edition 2 " + QUESTIONS)
        self.assert_rows(
            "noname", "sheet Ann 0 0 none", "sheet 1 1 1 none", "taken Ann 0", "sheet abcdefghi 1 1 none")
        self.assert_rows(
            "badcount", "sheet ann 0 0 none", "sheet ann 0 1 none", "sheet ann 1 0 none", "taken ann 0")

    def test_as_tables_refuse(self):
        self.assert_rows("noname", "table Mine nobody nobody")
        self.assert_rows("noquestion", "table mine nobody five", "table mine place x")
        self.assert_rows("nofit", "table mine place five", "table mine five five")
        self.assert_rows("twice", "table mine place place")
        self.assert_rows("unsafe", "table mine place pet")
        self.assert_rows("notable", "retell mine", "drop mine", "retell Mine", "drop ?")
        desk = self.desk()
        desk.tell("taken ann 9")
        for name in "abcd":
            self.assertEqual(len(desk.tell(f"table {name} place pet")), 4)
        self.assert_refused_row(desk, "table a place pet", "twice")
        self.assert_refused_row(desk, "table e place pet", "badcount")
        desk.tell("sheet cid 1 1 place.0=tent pet.0=cat")
        self.assert_refused_row(desk, "retell a", "unsafe")

    def test_no_edition(self):
        for row in ("table mine place pet", "table mine place place", "form"):
            self.assert_refused_row(Desk(), row, "noedition")
        self.assert_refused_row(Desk(), "back", "noback")

    def test_a_refused_row_is_no_deed(self):
        desk = Desk()
        desk.tell("edition 1 one a of x")
        desk.tell("edition 1 one b of x")
        desk.tell("sheet Ann 1 1 none")
        desk.tell("x")
        desk.tell("table mine a a")
        self.assert_told(desk, "back", ["done"])
        self.assert_told(desk, "number", ["0"])
        self.assert_told(desk, "back", ["refused noback"])


if __name__ == "__main__":
    unittest.main()
