"""What a form refuses, with which class and fields, and in which order: [6]."""

import unittest

from skiphall.conds import Above, Below, Both, Either, Has, Is, Not
from skiphall.errors import BadCount, NoFit, NoName, NoQuestion, Twice
from skiphall.forms import Check, Form, Number, One, Rounds, Section, Some
from tests.refusing import RefusalCase


def numbers(many):
    """As many rows as that."""
    return [Number("n" + str(at), 0, 1) for at in range(many)]


def options(many):
    """As many options as that."""
    return ["o" + str(at) for at in range(many)]


ONE = One("one", ["x", "y"])
SOME = Some("some", ["x", "y"])
NUMBER = Number("number", 0, 4)
CHECK = Check("check", Above("number", 0))
AHEAD = [ONE, SOME, NUMBER, CHECK]


class FormRefusalCase(RefusalCase):
    def assert_form(self, rows, kind, **fields):
        """The form of these rows is refused with just this class and these fields, each time."""
        self.assert_refused(kind, fields, Form, rows)
        self.assert_refused(kind, fields, Form, rows=tuple(rows))

    def assert_where(self, condition, kind, **fields):
        """Any kind of row with this where is refused so, behind AHEAD."""
        for row in (
            One("last", ["x"], where=condition),
            Some("last", ["x"], where=condition),
            Number("last", 0, 1, where=condition),
            Check("last", Is("one", "x"), where=condition),
            Check("last", condition),
            Section([Number("last", 0, 1)], where=condition),
            Rounds("number", [Number("last", 0, 1)], where=condition),
            Section([Number("last", 0, 1, where=condition)]),
            Rounds("number", [Number("last", 0, 1, where=condition)]),
        ):
            self.assert_form(AHEAD + [row], kind, **fields)


class CountOfRowsTest(FormRefusalCase):
    def test_no_rows(self):
        self.assert_form([], BadCount, what="rows", count=0)

    def test_more_than_forty(self):
        self.assert_form(numbers(41), BadCount, what="rows", count=41)
        self.assert_form(numbers(57), BadCount, what="rows", count=57)

    def test_rows_within_others_count(self):
        self.assert_form([Section(numbers(40))], BadCount, what="rows", count=41)
        self.assert_form([Section([Section(numbers(39))])], BadCount, what="rows", count=41)
        inner = Rounds("many", [Section(numbers(38))])
        self.assert_form([Number("many", 0, 4), inner], BadCount, what="rows", count=41)

    def test_sections_and_checks_count(self):
        rows = numbers(1) + [Check("c" + str(at), Above("n0", 0)) for at in range(40)]
        self.assert_form(rows, BadCount, what="rows", count=41)
        self.assert_form([Section(numbers(1))] + [Section([])] * 39, BadCount, what="rows", count=41)

    def test_ahead_of_all_else(self):
        rows = [One("No Name", [])] + numbers(40)
        self.assert_form(rows, BadCount, what="rows", count=41)
        rows = [Section([]), Section(numbers(40))]
        self.assert_form(rows, BadCount, what="rows", count=42)


class NamesTest(FormRefusalCase):
    def test_no_name(self):
        for row in (One("A", ["x"]), Some("A", ["x"]), Number("A", 0, 1), Check("A", Is("one", "x"))):
            self.assert_form([ONE, row], NoName, name="A")
            self.assert_form([ONE, Section([Section([row])])], NoName, name="A")

    def test_twice(self):
        for name in ("one", "some", "number", "check"):
            for row in (
                One(name, ["x"]),
                Some(name, ["x"]),
                Number(name, 0, 1),
                Check(name, Is("one", "x")),
            ):
                self.assert_form(AHEAD + [row], Twice, name=name)
                self.assert_form(AHEAD + [Section([row])], Twice, name=name)
                self.assert_form(AHEAD + [Rounds("number", [row])], Twice, name=name)
                self.assert_form([Section(AHEAD), row], Twice, name=name)

    def test_twice_in_rounds(self):
        inner = Number("in", 0, 1)
        self.assert_form([NUMBER, Rounds("number", [inner, inner])], Twice, name="in")
        rounds = Rounds("number", [inner])
        self.assert_form([NUMBER, rounds, inner], Twice, name="in")
        self.assert_form([NUMBER, rounds, rounds], Twice, name="in")

    def test_name_ahead_of_the_rest_of_the_row(self):
        bad = Is("nobody", "x")
        self.assert_form([One("A", [], where=bad)], NoName, name="A")
        self.assert_form([Some("A", [], where=bad)], NoName, name="A")
        self.assert_form([Number("A", 1, 0, where=bad)], NoName, name="A")
        self.assert_form([Check("A", bad, where=bad)], NoName, name="A")
        self.assert_form([ONE, One("one", [], where=bad)], Twice, name="one")
        self.assert_form([ONE, Some("one", [], where=bad)], Twice, name="one")
        self.assert_form([ONE, Number("one", 1, 0, where=bad)], Twice, name="one")
        self.assert_form([ONE, Check("one", bad, where=bad)], Twice, name="one")


class OptionsTest(FormRefusalCase):
    def test_too_few(self):
        self.assert_form([One("a", [])], BadCount, what="options", count=0)
        self.assert_form([Some("a", [])], BadCount, what="options", count=0)

    def test_too_many(self):
        for many in (7, 8, 20):
            self.assert_form([One("a", options(many))], BadCount, what="options", count=many)
        for many in (5, 6, 7, 20):
            self.assert_form([Some("a", options(many))], BadCount, what="options", count=many)

    def test_the_first_that_is_no_name(self):
        for kind in (One, Some):
            self.assert_form([kind("a", ["x", "Y", "Z"])], NoName, name="Y")
            self.assert_form([kind("a", [""])], NoName, name="")
            self.assert_form([kind("a", ["x", "y", "z", "9"])], NoName, name="9")

    def test_the_first_that_stands_ahead_of_it(self):
        for kind in (One, Some):
            self.assert_form([kind("a", ["x", "x"])], Twice, name="x")
            self.assert_form([kind("a", ["x", "y", "y", "x"])], Twice, name="y")
            self.assert_form([kind("a", ["y", "x", "z", "y"])], Twice, name="y")

    def test_count_ahead_of_names_ahead_of_twice_ahead_of_where(self):
        bad = Is("nobody", "x")
        for kind, most in ((One, 6), (Some, 4)):
            rows = [kind("a", ["X"] * (most + 1), where=bad)]
            self.assert_form(rows, BadCount, what="options", count=most + 1)
            self.assert_form([kind("a", ["x", "x", "Y"], where=bad)], NoName, name="Y")
            self.assert_form([kind("a", ["Y", "Y", "x"], where=bad)], NoName, name="Y")
            self.assert_form([kind("a", ["x", "x"], where=bad)], Twice, name="x")
            self.assert_form([kind("a", ["x"], where=bad)], NoQuestion, name="nobody")


class BoundsTest(FormRefusalCase):
    def test_low_above_high(self):
        self.assert_form([Number("a", 1, 0)], BadCount, what="bounds", count=0)
        self.assert_form([Number("a", -3, -4)], BadCount, what="bounds", count=-4)
        self.assert_form([Number("a", 500, 7)], BadCount, what="bounds", count=7)

    def test_ahead_of_where(self):
        rows = [Number("a", 1, 0, where=Is("nobody", "x"))]
        self.assert_form(rows, BadCount, what="bounds", count=0)


class InnerRowsTest(FormRefusalCase):
    def test_none(self):
        self.assert_form([Section([])], BadCount, what="rows", count=0)
        self.assert_form([NUMBER, Rounds("number", [])], BadCount, what="rows", count=0)
        self.assert_form([Section([Section([])])], BadCount, what="rows", count=0)
        rows = [NUMBER, Rounds("number", [Section([])])]
        self.assert_form(rows, BadCount, what="rows", count=0)

    def test_none_ahead_of_the_count_and_where(self):
        bad = Is("nobody", "x")
        self.assert_form([Section([], where=bad)], BadCount, what="rows", count=0)
        self.assert_form([Rounds("none", [], where=bad)], BadCount, what="rows", count=0)

    def test_rounds_in_rounds(self):
        inner = Rounds("number", [Number("in", 0, 1)])
        self.assert_form([NUMBER, Rounds("number", [inner])], BadCount, what="rounds", count=2)
        rows = [NUMBER, Rounds("number", [Number("out", 0, 1), Section([Section([inner])])])]
        self.assert_form(rows, BadCount, what="rounds", count=2)
        rows = [NUMBER, Section([Rounds("number", [Section([inner])])])]
        self.assert_form(rows, BadCount, what="rounds", count=2)

    def test_three_rounds_within_one_another(self):
        inner = Rounds("number", [Rounds("number", [Number("in", 0, 1)])])
        self.assert_form([NUMBER, Rounds("number", [inner])], BadCount, what="rounds", count=2)

    def test_no_rows_ahead_of_rounds_in_rounds_ahead_of_the_count(self):
        bad = Is("nobody", "x")
        rows = [NUMBER, Rounds("number", [Rounds("none", [], where=bad)])]
        self.assert_form(rows, BadCount, what="rows", count=0)
        rows = [NUMBER, Rounds("number", [Rounds("none", numbers(1), where=bad)])]
        self.assert_form(rows, BadCount, what="rounds", count=2)

    def test_the_outer_rounds_is_refused_ahead_of_the_inner_one(self):
        inner = Rounds("number", numbers(1))
        self.assert_form([NUMBER, Rounds("none", [inner])], NoQuestion, name="none")
        rows = [NUMBER, Rounds("number", [inner], where=Is("nobody", "x"))]
        self.assert_form(rows, NoQuestion, name="nobody")
        rows = [NUMBER, Rounds("number", [Number("No", 0, 1), inner])]
        self.assert_form(rows, NoName, name="No")


class CountOfRoundsTest(FormRefusalCase):
    def test_no_question(self):
        inner = numbers(1)
        self.assert_form([NUMBER, Rounds("nobody", inner)], NoQuestion, name="nobody")
        self.assert_form([NUMBER, Rounds("No Name", inner)], NoQuestion, name="No Name")
        self.assert_form(AHEAD + [Rounds("check", inner)], NoQuestion, name="check")

    def test_a_number_behind(self):
        self.assert_form([Rounds("number", numbers(1)), NUMBER], NoQuestion, name="number")
        self.assert_form([Rounds("number", [NUMBER])], NoQuestion, name="number")

    def test_a_number_in_another_rounds(self):
        rows = [NUMBER, Rounds("number", [Number("in", 0, 4)]), Rounds("in", numbers(1))]
        self.assert_form(rows, NoQuestion, name="in")
        rows = [NUMBER, Rounds("number", [Section([Number("in", 0, 4)])]), Section([Rounds("in", numbers(1))])]
        self.assert_form(rows, NoQuestion, name="in")

    def test_another_kind(self):
        self.assert_form([ONE, Rounds("one", numbers(1))], NoFit, name="one")
        self.assert_form([SOME, Rounds("some", numbers(1))], NoFit, name="some")

    def test_bounds_that_reach_too_far(self):
        for low, high in ((-1, 4), (-1, 0), (0, 5), (5, 5), (-9, -8), (-1, 5), (4, 5), (-1, -1)):
            rows = [Number("a", low, high), Rounds("a", numbers(1))]
            self.assert_form(rows, NoFit, name="a")

    def test_ahead_of_where(self):
        bad = Is("nowhere", "x")
        self.assert_form([NUMBER, Rounds("nobody", numbers(1), where=bad)], NoQuestion, name="nobody")
        self.assert_form([ONE, Rounds("one", numbers(1), where=bad)], NoFit, name="one")
        rows = [Number("a", 0, 5), Rounds("a", numbers(1), where=bad)]
        self.assert_form(rows, NoFit, name="a")
        self.assert_form([NUMBER, Rounds("number", numbers(1), where=bad)], NoQuestion, name="nowhere")

    def test_ahead_of_the_rows_within(self):
        self.assert_form([NUMBER, Rounds("nobody", [One("A", [])])], NoQuestion, name="nobody")


class ConditionsTest(FormRefusalCase):
    def test_no_question_of_this_name(self):
        for condition in (Is("nobody", "x"), Has("nobody", "x"), Above("nobody", 0), Below("nobody", 0)):
            self.assert_where(condition, NoQuestion, name="nobody")
            self.assert_where(Not(condition), NoQuestion, name="nobody")

    def test_a_text_that_is_no_name(self):
        self.assert_where(Is("No Name", "x"), NoQuestion, name="No Name")
        self.assert_where(Above("", 0), NoQuestion, name="")

    def test_a_check(self):
        for condition in (Is("check", "x"), Has("check", "x"), Above("check", 0), Below("check", 0)):
            self.assert_where(condition, NoQuestion, name="check")

    def test_the_row_itself(self):
        self.assert_form([One("a", ["x"], where=Is("a", "x"))], NoQuestion, name="a")
        self.assert_form([Some("a", ["x"], where=Has("a", "x"))], NoQuestion, name="a")
        self.assert_form([Number("a", 0, 1, where=Above("a", 0))], NoQuestion, name="a")
        self.assert_form([Check("a", Is("a", "x"))], NoQuestion, name="a")
        self.assert_form([ONE, Check("a", Is("one", "x"), where=Below("a", 1))], NoQuestion, name="a")

    def test_a_row_behind(self):
        behind = Number("b", 0, 1)
        self.assert_form([Number("a", 0, 1, where=Above("b", 0)), behind], NoQuestion, name="b")
        self.assert_form([Check("a", Above("b", 0)), behind], NoQuestion, name="b")
        self.assert_form([Section(numbers(1), where=Above("b", 0)), behind], NoQuestion, name="b")

    def test_a_row_within(self):
        self.assert_form([Section([NUMBER], where=Above("number", 0))], NoQuestion, name="number")
        rounds = Rounds("number", [Number("in", 0, 1)], where=Above("in", 0))
        self.assert_form([NUMBER, rounds], NoQuestion, name="in")

    def test_a_question_in_rounds_from_outside(self):
        spoken = Above("in", 0)
        for inner in ([Number("in", 0, 4)], [Section([Number("in", 0, 4)])]):
            rows = [NUMBER, Rounds("number", inner)]
            self.assert_form(rows + [Number("out", 0, 1, where=spoken)], NoQuestion, name="in")
            self.assert_form(rows + [Check("out", spoken)], NoQuestion, name="in")
            self.assert_form(rows + [Section(numbers(1), where=spoken)], NoQuestion, name="in")
            self.assert_form(rows + [Section([Check("out", spoken)])], NoQuestion, name="in")

    def test_a_question_in_another_rounds(self):
        spoken = Above("in", 0)
        rows = [NUMBER, Rounds("number", [Number("in", 0, 4)])]
        self.assert_form(rows + [Rounds("number", numbers(1), where=spoken)], NoQuestion, name="in")
        other = Rounds("number", [Number("out", 0, 1, where=spoken)])
        self.assert_form(rows + [other], NoQuestion, name="in")
        other = Rounds("number", [Section([Check("out", spoken)])])
        self.assert_form(rows + [other], NoQuestion, name="in")
        self.assert_form([Section([NUMBER, rows[1]]), Section([other])], NoQuestion, name="in")

    def test_a_question_in_the_same_rounds_fits_or_not(self):
        def rows(condition):
            return [NUMBER, Rounds("number", [Number("in", 0, 4), Section([Check("out", condition)])])]

        Form(rows(Above("in", 0)))
        self.assert_form(rows(Is("in", "x")), NoFit, name="in")

    def test_another_kind(self):
        for condition in (Has("one", "x"), Above("one", 0), Below("one", 0)):
            self.assert_where(condition, NoFit, name="one")
        for condition in (Is("some", "x"), Above("some", 0), Below("some", 0)):
            self.assert_where(condition, NoFit, name="some")
        for condition in (Is("number", "x"), Has("number", "x")):
            self.assert_where(condition, NoFit, name="number")

    def test_without_the_option(self):
        for option in ("z", "one", "", "No Name", "xy"):
            self.assert_where(Is("one", option), NoFit, name="one")
            self.assert_where(Has("some", option), NoFit, name="some")

    def test_the_first_from_left_to_right(self):
        lost, unfit = Is("nobody", "x"), Is("some", "x")
        fine = Is("one", "x")
        for kind in (Both, Either):
            self.assert_where(kind(lost, unfit), NoQuestion, name="nobody")
            self.assert_where(kind(unfit, lost), NoFit, name="some")
            self.assert_where(kind(fine, unfit), NoFit, name="some")
            self.assert_where(kind(unfit, fine), NoFit, name="some")
            self.assert_where(kind(Not(Not(unfit)), lost), NoFit, name="some")
            self.assert_where(kind(Both(fine, Not(unfit)), lost), NoFit, name="some")
            self.assert_where(kind(fine, Either(Not(lost), unfit)), NoQuestion, name="nobody")

    def test_where_ahead_of_must(self):
        lost, unfit = Is("nobody", "x"), Is("some", "x")
        self.assert_form(AHEAD + [Check("a", lost, where=unfit)], NoFit, name="some")
        self.assert_form(AHEAD + [Check("a", unfit, where=lost)], NoQuestion, name="nobody")
        self.assert_form(AHEAD + [Check("a", unfit, where=Is("one", "x"))], NoFit, name="some")


class OrderOfRowsTest(FormRefusalCase):
    AMISS = [
        (One("A", ["x"]), NoName, {"name": "A"}),
        (One("one", ["x"]), Twice, {"name": "one"}),
        (Some("a", []), BadCount, {"what": "options", "count": 0}),
        (One("b", ["B"]), NoName, {"name": "B"}),
        (One("c", ["x", "x"]), Twice, {"name": "x"}),
        (Number("d", 3, 2), BadCount, {"what": "bounds", "count": 2}),
        (Section([]), BadCount, {"what": "rows", "count": 0}),
        (Rounds("nobody", [Number("e", 0, 1)]), NoQuestion, {"name": "nobody"}),
        (Rounds("one", [Number("e", 0, 1)]), NoFit, {"name": "one"}),
        (Number("f", 0, 1, where=Is("noone", "x")), NoQuestion, {"name": "noone"}),
        (Check("g", Is("some", "x")), NoFit, {"name": "some"}),
    ]

    def test_the_row_that_stands_ahead_is_refused(self):
        for first, kind, fields in self.AMISS:
            for second, other, more in self.AMISS:
                self.assert_form(AHEAD + [first, second], kind, **fields)
                self.assert_form(AHEAD + [Section([first]), second], kind, **fields)
                self.assert_form(AHEAD + [Section([first, second])], kind, **fields)

    def test_a_row_is_refused_ahead_of_those_within_it(self):
        for inner, kind, fields in self.AMISS:
            outer = Section([inner], where=Is("nowhere", "x"))
            self.assert_form(AHEAD + [outer], NoQuestion, name="nowhere")
            outer = Rounds("number", [inner], where=Has("one", "x"))
            self.assert_form(AHEAD + [outer], NoFit, name="one")

    def test_those_within_a_row_are_refused_ahead_of_the_row_behind_it(self):
        for inner, kind, fields in self.AMISS:
            if isinstance(inner, Rounds):
                continue
            rows = AHEAD + [Rounds("number", [Section([inner])]), Number("No", 1, 0)]
            self.assert_form(rows, kind, **fields)


if __name__ == "__main__":
    unittest.main()
