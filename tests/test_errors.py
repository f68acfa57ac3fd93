"""The refusals: [2] and the interface's lines for skiphall/errors.py."""

import unittest

from skiphall import errors

KINDS = {
    "BadCount": ("what", "count"),
    "NoName": ("name",),
    "Twice": ("name",),
    "NoQuestion": ("name",),
    "NoFit": ("name",),
    "NotAsked": ("spot",),
    "NoEvent": ("word",),
    "Unlike": ("number",),
    "NoEdition": (),
    "NoCell": ("row", "column"),
    "Unsafe": ("cell",),
    "NoTable": ("name",),
    "NoBack": (),
    "BadRow": ("row", "place"),
}

WORTHS = {
    "what": "rows",
    "count": 41,
    "name": "No Name",
    "spot": ("age", 0),
    "word": "sheet",
    "number": -3,
    "row": 2,
    "column": 5,
    "cell": (1, 0),
    "place": 7,
}


class ErrorsTest(unittest.TestCase):
    def test_all_the_refusals_and_no_more(self):
        found = {name for name, kind in vars(errors).items() if isinstance(kind, type)}
        self.assertEqual(found, set(KINDS) | {"HallError"})

    def test_the_base_is_a_value_error(self):
        self.assertEqual(errors.HallError.__bases__, (ValueError,))
        self.assertEqual(errors.HallError().told(), "refused hallerror")

    def test_each_stands_under_the_base_alone(self):
        for name in KINDS:
            with self.subTest(name):
                self.assertEqual(getattr(errors, name).__bases__, (errors.HallError,))

    def test_fields_by_position(self):
        for name, fields in KINDS.items():
            with self.subTest(name):
                refusal = getattr(errors, name)(*[WORTHS[field] for field in fields])
                self.assertEqual(vars(refusal), {field: WORTHS[field] for field in fields})

    def test_fields_by_name(self):
        for name, fields in KINDS.items():
            with self.subTest(name):
                given = {field: WORTHS[field] for field in fields}
                self.assertEqual(vars(getattr(errors, name)(**given)), given)

    def test_fields_lack_or_are_too_many(self):
        for name, fields in KINDS.items():
            if not fields:
                continue
            with self.subTest(name):
                kind = getattr(errors, name)
                given = [WORTHS[field] for field in fields]
                self.assertRaises(TypeError, kind, *given[:-1])
                self.assertRaises(TypeError, kind, *given, 1)

    def test_told_is_the_class_in_small_letters(self):
        for name, fields in KINDS.items():
            with self.subTest(name):
                refusal = getattr(errors, name)(*[WORTHS[field] for field in fields])
                self.assertEqual(refusal.told(), "refused " + name.lower())
                self.assertEqual(refusal.told(), refusal.told())

    def test_told_stands_in_each_class_itself(self):
        for name in KINDS:
            with self.subTest(name):
                self.assertIn("told", vars(getattr(errors, name)))

    def test_can_be_raised_and_caught_by_the_base(self):
        for name, fields in KINDS.items():
            with self.subTest(name):
                refusal = getattr(errors, name)(*[WORTHS[field] for field in fields])
                with self.assertRaises(errors.HallError) as caught:
                    raise refusal
                self.assertIs(caught.exception, refusal)


if __name__ == "__main__":
    unittest.main()
