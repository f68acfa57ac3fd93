"""Rows: [4] and the interface's lines for the rows of skiphall/forms.py."""

import unittest

from skiphall import forms
from skiphall.conds import Above, Is
from skiphall.forms import Check, Number, One, Row, Rounds, Section, Some

FIELDS = {
    "One": ("name", "options"),
    "Some": ("name", "options"),
    "Number": ("name", "low", "high"),
    "Check": ("name", "must"),
    "Section": ("rows",),
    "Rounds": ("count", "rows"),
}


def worths(name):
    """What a row of this class is made of, and for each field another worth."""
    inner, others = (Number("n", 1, 2), One("o", ("x",))), (Number("n", 1, 3), One("o", ("x",)))
    made = {
        "One": (["pet", ("cat", "dog")], ["bird", ("dog", "cat")]),
        "Some": (["pet", ("cat", "dog")], ["bird", ("cat", "dog", "cow")]),
        "Number": (["age", -3, 120], ["size", 3, 121]),
        "Check": (["sure", Is("pet", "cat")], ["safe", Is("pet", "dog")]),
        "Section": ([inner], [others]),
        "Rounds": (["many", inner], ["few", others]),
    }
    return made[name]


class RowsTest(unittest.TestCase):
    def test_all_stand_under_row(self):
        for name in FIELDS:
            with self.subTest(name):
                kind = getattr(forms, name)
                self.assertTrue(issubclass(kind, Row))
                self.assertEqual(kind.__module__, "skiphall.forms")

    def test_fields_by_position(self):
        for name, fields in FIELDS.items():
            with self.subTest(name):
                given, others = worths(name)
                made = getattr(forms, name)(*given)
                self.assertEqual(vars(made), {**dict(zip(fields, given)), "where": None})

    def test_fields_by_name(self):
        for name, fields in FIELDS.items():
            with self.subTest(name):
                given, others = worths(name)
                wanted = {**dict(zip(fields, given)), "where": Above("n", 3)}
                self.assertEqual(vars(getattr(forms, name)(**wanted)), wanted)

    def test_where_stands_behind_a_star(self):
        for name in FIELDS:
            with self.subTest(name):
                given, others = worths(name)
                self.assertRaises(TypeError, getattr(forms, name), *given, Above("n", 3))

    def test_alike_where_class_and_fields_are(self):
        for name in FIELDS:
            with self.subTest(name):
                kind = getattr(forms, name)
                given, others = worths(name)
                again, more = worths(name)
                self.assertIs(kind(*given) == kind(*again), True)
                self.assertIs(kind(*given) != kind(*again), False)
                self.assertEqual(kind(*given, where=Is("a", "b")), kind(*again, where=Is("a", "b")))

    def test_unlike_where_one_field_is(self):
        for name in FIELDS:
            kind = getattr(forms, name)
            given, others = worths(name)
            for at, other in enumerate(others):
                with self.subTest(name, at=at):
                    changed = given[:at] + [other] + given[at + 1:]
                    self.assertIs(kind(*given) == kind(*changed), False)
                    self.assertIs(kind(*given) != kind(*changed), True)

    def test_unlike_where_where_is(self):
        for name in FIELDS:
            with self.subTest(name):
                kind = getattr(forms, name)
                given, others = worths(name)
                self.assertNotEqual(kind(*given), kind(*given, where=Is("a", "b")))
                self.assertNotEqual(kind(*given, where=Is("a", "b")), kind(*given))
                self.assertNotEqual(kind(*given, where=Is("a", "c")), kind(*given, where=Is("a", "b")))

    def test_unlike_where_the_class_is(self):
        made = [
            One("a", ["x"]),
            Some("a", ["x"]),
            Number("a", 0, 1),
            Check("a", Is("b", "c")),
            Section([One("b", ["x"])]),
            Rounds("a", [One("b", ["x"])]),
        ]
        for at, left in enumerate(made):
            for place, right in enumerate(made):
                with self.subTest(at=at, place=place):
                    self.assertIs(left == right, at == place)

    def test_unlike_to_other_things(self):
        for name in FIELDS:
            given, others = worths(name)
            for thing in (None, 1, "a", tuple(given), given):
                self.assertIs(getattr(forms, name)(*given) == thing, False)

    def test_options_and_rows_are_told_as_tuples(self):
        number = Number("n", 0, 1)
        self.assertEqual(One("a", ["x", "y"]).options, ("x", "y"))
        self.assertEqual(Some("a", ["x", "y"]).options, ("x", "y"))
        self.assertEqual(Section([number]).rows, (number,))
        self.assertEqual(Rounds("n", [number]).rows, (number,))

    def test_a_list_or_a_tuple_will_do(self):
        number = Number("n", 0, 1)
        self.assertEqual(One("a", ["x", "y"]), One("a", ("x", "y")))
        self.assertEqual(Some("a", ["x", "y"]), Some("a", ("x", "y")))
        self.assertEqual(Section([number]), Section((number,)))
        self.assertEqual(Rounds("n", [number]), Rounds("n", (number,)))

    def test_what_is_handed_in_stays(self):
        options, rows = ["x", "y"], [Number("n", 0, 1)]
        One("a", options)
        Some("a", options)
        Section(rows)
        Rounds("n", rows)
        self.assertEqual(options, ["x", "y"])
        self.assertEqual(rows, [Number("n", 0, 1)])

    def test_what_is_changed_later_changes_nothing(self):
        options, rows = ["x", "y"], [Number("n", 0, 1)]
        made = [One("a", options), Some("a", options), Section(rows), Rounds("n", rows)]
        options.append("z")
        rows.clear()
        self.assertEqual(made[0].options, ("x", "y"))
        self.assertEqual(made[1].options, ("x", "y"))
        self.assertEqual(made[2].rows, (Number("n", 0, 1),))
        self.assertEqual(made[3].rows, (Number("n", 0, 1),))

    def test_a_row_refuses_nothing_by_itself(self):
        One("No Name", [])
        Some("", ["a", "a", "B"])
        Number("", 3, 2)
        Check("", Is("", ""))
        Section([])
        Rounds("", [Rounds("", [])])


if __name__ == "__main__":
    unittest.main()
