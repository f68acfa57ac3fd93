"""Conditions: [5] and the interface's lines for skiphall/conds.py."""

import unittest

from skiphall import conds
from skiphall.conds import Above, Below, Both, Condition, Either, Has, Is, Not, simple_ones

FIELDS = {
    "Is": ("name", "option"),
    "Has": ("name", "option"),
    "Above": ("name", "number"),
    "Below": ("name", "number"),
    "Not": ("inner",),
    "Both": ("left", "right"),
    "Either": ("left", "right"),
}


def worths(name):
    """What a condition of this class is made of, and for each field another worth."""
    if name in ("Is", "Has"):
        return ["pet", "cat"], ["bird", "dog"]
    if name in ("Above", "Below"):
        return ["age", -7], ["size", 7]
    if name == "Not":
        return [Is("pet", "cat")], [Is("pet", "dog")]
    return [Is("pet", "cat"), Above("age", 4)], [Is("pet", "dog"), Above("age", 5)]


class CondsTest(unittest.TestCase):
    def test_all_stand_under_condition(self):
        for name in FIELDS:
            with self.subTest(name):
                kind = getattr(conds, name)
                self.assertTrue(issubclass(kind, Condition))
                self.assertEqual(kind.__module__, "skiphall.conds")

    def test_fields_by_position_and_by_name(self):
        for name, fields in FIELDS.items():
            with self.subTest(name):
                given, others = worths(name)
                wanted = dict(zip(fields, given))
                self.assertEqual(vars(getattr(conds, name)(*given)), wanted)
                self.assertEqual(vars(getattr(conds, name)(**wanted)), wanted)

    def test_any_text_and_number_can_be_handed_in(self):
        self.assertEqual(Is("", "No Name").name, "")
        self.assertEqual(Has("9", "").option, "")
        self.assertEqual(Above("A B", -(10 ** 30)).number, -(10 ** 30))
        self.assertEqual(Below("x", 10 ** 30).number, 10 ** 30)

    def test_alike_where_class_and_fields_are(self):
        for name in FIELDS:
            with self.subTest(name):
                kind = getattr(conds, name)
                given, others = worths(name)
                again, more = worths(name)
                self.assertIs(kind(*given) == kind(*again), True)
                self.assertIs(kind(*given) != kind(*again), False)

    def test_unlike_where_one_field_is(self):
        for name in FIELDS:
            kind = getattr(conds, name)
            given, others = worths(name)
            for at, other in enumerate(others):
                with self.subTest(name, at=at):
                    changed = given[:at] + [other] + given[at + 1:]
                    self.assertIs(kind(*given) == kind(*changed), False)
                    self.assertIs(kind(*given) != kind(*changed), True)

    def test_unlike_where_the_class_is(self):
        one, two = Is("a", "b"), Is("c", "d")
        made = [
            Is("a", "b"),
            Has("a", "b"),
            Above("a", 1),
            Below("a", 1),
            Not(one),
            Both(one, two),
            Either(one, two),
        ]
        for at, left in enumerate(made):
            for place, right in enumerate(made):
                with self.subTest(at=at, place=place):
                    self.assertIs(left == right, at == place)

    def test_unlike_to_other_things(self):
        for thing in (None, 1, "a", ("a", "b"), ["a", "b"]):
            for condition in (Is("a", "b"), Has("a", "b"), Above("a", 1), Below("a", 1)):
                self.assertIs(condition == thing, False)
                self.assertIs(Not(condition) == thing, False)
                self.assertIs(Both(condition, condition) == thing, False)
                self.assertIs(Either(condition, condition) == thing, False)

    def test_left_and_right_are_not_one(self):
        one, two = Is("a", "b"), Is("c", "d")
        self.assertNotEqual(Both(one, two), Both(two, one))
        self.assertNotEqual(Either(one, two), Either(two, one))

    def test_alike_all_the_way_in(self):
        def made(last):
            return Both(Not(Either(Is("a", "b"), Below("n", 4))), Not(Not(Has("s", last))))

        self.assertEqual(made("x"), made("x"))
        self.assertNotEqual(made("x"), made("y"))

    def test_simple_ones_from_left_to_right(self):
        a, b, c, d = Is("a", "x"), Has("b", "x"), Above("c", 1), Below("d", 1)
        self.assertEqual(simple_ones(a), [a])
        self.assertEqual(simple_ones(Not(Not(b))), [b])
        self.assertEqual(simple_ones(Both(Either(a, Not(b)), Both(c, d))), [a, b, c, d])
        self.assertEqual(simple_ones(Either(d, Both(c, Either(b, a)))), [d, c, b, a])


if __name__ == "__main__":
    unittest.main()
