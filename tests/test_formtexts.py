"""The rows of a form as they are written and read: [23] and the lines for skiphall/formtexts.py."""

import unittest

from skiphall.conds import Above, Below, Both, Either, Has, Is, Not
from skiphall.errors import BadCount, NoFit, NoName, NoQuestion, Twice
from skiphall.forms import Check, Form, Number, One, Rounds, Section, Some
from skiphall.formtexts import form_rows, read_form
from tests.making import Maker
from tests.refusing import RefusalCase
from tests.samples import household, household_rows

AHEAD = [One("a", ["x", "y"]), Number("n", 0, 4)]
AHEAD_ROWS = ["one a of x y", "number n 0 4"]
WHERE, WHERE_TEXT = Is("a", "x"), " where a is x"

# Each kind of row: what it is made of, and how it is written but for its where.
KINDS = [
    (One, ["q", ["x"]], ["one q of x"]),
    (One, ["q", ["x", "y", "z", "u", "v", "w"]], ["one q of x y z u v w"]),
    (Some, ["q", ["x"]], ["some q of x"]),
    (Some, ["q", ["y", "x", "z", "w"]], ["some q of y x z w"]),
    (Number, ["q", 0, 9], ["number q 0 9"]),
    (Number, ["q", -12, -3], ["number q -12 -3"]),
    (Number, ["q", -999999999999, 999999999999], ["number q -999999999999 999999999999"]),
    (Check, ["q", Above("n", 2)], ["check q must n above 2"]),
    (Check, ["q", Either(Above("n", 2), Not(WHERE))], ["check q must n above 2 or not a is x"]),
    (Section, [[Number("q", 0, 9)]], ["section", "number q 0 9", "end"]),
    (Section, [[Section([Number("q", 0, 9)]), Number("r", 0, 9)]],
     ["section", "section", "number q 0 9", "end", "number r 0 9", "end"]),
    (Rounds, ["n", [Number("q", 0, 9)]], ["rounds n", "number q 0 9", "end"]),
    (Rounds, ["n", [Number("q", 0, 9), Check("r", Below("q", 3))]],
     ["rounds n", "number q 0 9", "check r must q below 3", "end"]),
]


def with_where(rows):
    """The texts of a row, with a where behind the first."""
    return [rows[0] + WHERE_TEXT] + rows[1:]


class BothWaysTest(unittest.TestCase):
    def assert_both_ways(self, rows, texts):
        self.assertEqual(form_rows(Form(rows)), texts)
        self.assertEqual(read_form(texts), Form(rows))
        self.assertEqual(read_form(texts).outline(), rows)

    def test_each_kind_of_row_without_a_where(self):
        for kind, given, texts in KINDS:
            with self.subTest(texts):
                self.assert_both_ways(AHEAD + [kind(*given)], AHEAD_ROWS + texts)

    def test_each_kind_of_row_with_a_where(self):
        for kind, given, texts in KINDS:
            with self.subTest(texts):
                rows = AHEAD + [kind(*given, where=WHERE)]
                self.assert_both_ways(rows, AHEAD_ROWS + with_where(texts))

    def test_rows_behind_a_row_that_has_ended(self):
        last = Number("last", 0, 1)
        for kind, given, texts in KINDS:
            with self.subTest(texts):
                rows = AHEAD + [kind(*given), last]
                self.assert_both_ways(rows, AHEAD_ROWS + texts + ["number last 0 1"])

    def test_all_together(self):
        self.assert_both_ways(household(), household_rows())

    def test_must_and_where_of_a_check(self):
        rows = AHEAD + [Check("k", Both(WHERE, Above("n", 1)), where=Either(Not(WHERE), Below("n", -1)))]
        texts = AHEAD_ROWS + ["check k must a is x and n above 1 where not a is x or n below -1"]
        self.assert_both_ways(rows, texts)

    def test_sections_within_one_another(self):
        rows, texts = [Number("q", 0, 1)], ["number q 0 1"]
        for times in range(10):
            rows, texts = [Section(rows)], ["section"] + texts + ["end"]
        self.assert_both_ways(rows, texts)

    def test_forty_rows(self):
        names = ["q" + str(at) for at in range(40)]
        rows, texts = [Number(name, 0, 1) for name in names], [f"number {name} 0 1" for name in names]
        self.assert_both_ways(rows, texts)

    def test_names_that_are_words_of_the_rows(self):
        rows = [
            One("one", ["of", "one", "end", "is"]),
            Number("number", 0, 4),
            Some("some", ["has", "above"], where=Is("one", "is")),
            Check("section", Above("number", 0), where=Has("some", "above")),
            Rounds("number", [Number("rounds", 0, 1)]),
            One("is", ["is"]),
            Check("check", Is("is", "is")),
            Number("of", 0, 1),
            Number("end", 0, 1),
        ]
        texts = [
            "one one of of one end is",
            "number number 0 4",
            "some some of has above where one is is",
            "check section must number above 0 where some has above",
            "rounds number",
            "number rounds 0 1",
            "end",
            "one is of is",
            "check check must is is is",
            "number of 0 1",
            "number end 0 1",
        ]
        self.assert_both_ways(rows, texts)

    def test_many_forms(self):
        maker = Maker(23)
        for times in range(300):
            form = maker.form()
            texts = form_rows(form)
            self.assertEqual(read_form(texts), form)
            self.assertEqual(form_rows(read_form(texts)), texts)


class WrittenAloneTest(unittest.TestCase):
    """What is written, but not read."""

    def test_names_of_the_five_words(self):
        for word in ("where", "must", "and", "or", "not"):
            with self.subTest(word):
                form = Form([
                    One(word, [word, "x"]),
                    Number("n", 0, 4, where=Is(word, word)),
                    Check("k", Not(Is(word, "x"))),
                ])
                self.assertEqual(form_rows(form), [
                    f"one {word} of {word} x",
                    f"number n 0 4 where {word} is {word}",
                    f"check k must not {word} is x",
                ])

    def test_greater_numbers(self):
        great = 10 ** 12
        form = Form([Number("n", -great, great), Check("k", Either(Above("n", great), Below("n", -(10 ** 30))))])
        self.assertEqual(form_rows(form), [
            "number n -1000000000000 1000000000000",
            "check k must n above 1000000000000 or n below -" + str(10 ** 30),
        ])


class ToldTest(unittest.TestCase):
    def test_by_the_names_of_the_arguments(self):
        self.assertEqual(form_rows(form=Form(household())), household_rows())
        self.assertEqual(read_form(rows=household_rows()), Form(household()))

    def test_a_list_or_a_tuple(self):
        self.assertEqual(read_form(tuple(household_rows())), Form(household()))

    def test_what_is_handed_in_stays_and_is_changed_later(self):
        rows, form = household_rows(), Form(household())
        made = read_form(rows)
        self.assertEqual(rows, household_rows())
        rows.clear()
        self.assertEqual(made, Form(household()))
        form_rows(form)
        self.assertEqual(form, Form(household()))

    def test_each_list_told_is_a_new_one(self):
        form = Form(household())
        self.assertIs(form_rows(form).__class__, list)
        form_rows(form).clear()
        form_rows(form).append("end")
        self.assertEqual(form_rows(form), household_rows())


class BehindAllThatTest(RefusalCase):
    """What is read, but refused as the Form refuses."""

    def assert_as_the_form(self, texts, kind, **fields):
        self.assert_refused(kind, fields, read_form, texts)
        self.assert_refused(kind, fields, read_form, tuple(texts))

    def test_no_rows_at_all(self):
        self.assert_as_the_form([], BadCount, what="rows", count=0)

    def test_too_many_rows(self):
        texts = [f"number q{at} 0 1" for at in range(41)]
        self.assert_as_the_form(texts, BadCount, what="rows", count=41)
        self.assert_as_the_form(["section"] + texts[:40] + ["end"], BadCount, what="rows", count=41)

    def test_rows_that_are_none(self):
        self.assert_as_the_form(["section", "end"], BadCount, what="rows", count=0)
        self.assert_as_the_form(["number n 0 4", "rounds n", "end"], BadCount, what="rows", count=0)

    def test_rounds_in_rounds(self):
        texts = ["number n 0 4", "rounds n", "rounds n", "number m 0 1", "end", "end"]
        self.assert_as_the_form(texts, BadCount, what="rounds", count=2)

    def test_no_names(self):
        for name in ("A", "9", "abcdefghi", "a-b", "a.b", "is,", "-1", "a(b"):
            self.assert_as_the_form([f"one {name} of x"], NoName, name=name)
            self.assert_as_the_form([f"some {name} of x"], NoName, name=name)
            self.assert_as_the_form([f"number {name} 0 1"], NoName, name=name)
            self.assert_as_the_form([f"one q of x {name} y"], NoName, name=name)
            self.assert_as_the_form(["one a of x", f"check {name} must a is x"], NoName, name=name)
            self.assert_as_the_form([f"rounds {name}", "number q 0 1", "end"], NoQuestion, name=name)
            self.assert_as_the_form([f"number q 0 1 where {name} above 1"], NoQuestion, name=name)
            self.assert_as_the_form(["one a of x", f"check k must a is {name}"], NoFit, name="a")

    def test_twice(self):
        self.assert_as_the_form(["one a of x", "number a 0 1"], Twice, name="a")
        self.assert_as_the_form(["one a of x x"], Twice, name="x")

    def test_options_and_bounds(self):
        self.assert_as_the_form(["one a of a b c d e f g"], BadCount, what="options", count=7)
        self.assert_as_the_form(["some a of a b c d e"], BadCount, what="options", count=5)
        self.assert_as_the_form(["number a 1 0"], BadCount, what="bounds", count=0)
        self.assert_as_the_form(["number a -1 -999999999999"], BadCount, what="bounds", count=-999999999999)

    def test_conditions_that_do_not_fit(self):
        self.assert_as_the_form(["number a 0 1 where a above 0"], NoQuestion, name="a")
        self.assert_as_the_form(["one a of x", "check k must a above 0"], NoFit, name="a")


if __name__ == "__main__":
    unittest.main()
