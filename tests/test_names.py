"""Names: [3]."""

import unittest

from skiphall.errors import NoName, NoQuestion, Twice
from skiphall.forms import Check, Form, Number, One, Some
from skiphall.conds import Above
from skiphall.names import is_name, refuse_no_name, refuse_twice
from tests.refusing import RefusalCase

NAMES = ["a", "z", "a0", "a9", "m5x", "abcdefgh", "z9999999", "where", "none", "all", "and"]

NO_NAMES = [
    "",
    " ",
    "0",
    "9a",
    "A",
    "Z",
    "aB",
    "abcdefghi",
    "a2345678b",
    "a b",
    " a",
    "a ",
    "a_b",
    "_a",
    "a-b",
    "a.b",
    "a+",
    "`a",
    "a{",
    "a/",
    "a:",
    "~",
]


class NamesTest(RefusalCase):
    def test_names(self):
        for text in NAMES:
            with self.subTest(text):
                self.assertIs(is_name(text), True)
                refuse_no_name(text)
                self.assertEqual(Form([One(text, ["a"])]).names(), [text])
                self.assertEqual(Form([One("q", [text])]).question("q").options, (text,))

    def test_each_sign(self):
        letters = "abcdefghijklmnopqrstuvwxyz"
        for code in range(32, 127):
            sign = chr(code)
            with self.subTest(sign):
                self.assertIs(is_name(sign), sign in letters)
                self.assertIs(is_name("a" + sign), sign in letters + "0123456789")
                self.assertIs(is_name("a" + sign + "a"), sign in letters + "0123456789")

    def test_each_length(self):
        for length in range(0, 20):
            with self.subTest(length):
                self.assertIs(is_name("n" * length), 1 <= length <= 8)

    def test_other_texts_are_refused(self):
        for text in NO_NAMES:
            with self.subTest(text):
                self.assertIs(is_name(text), False)
                self.assert_refused(NoName, {"name": text}, refuse_no_name, text)

    def test_a_form_refuses_them_where_a_name_is_wanted(self):
        age = Number("age", 0, 9)
        for text in NO_NAMES:
            with self.subTest(text):
                refused = {"name": text}
                self.assert_refused(NoName, refused, Form, [One(text, ["a"])])
                self.assert_refused(NoName, refused, Form, [Some(text, ["a"])])
                self.assert_refused(NoName, refused, Form, [Number(text, 0, 1)])
                self.assert_refused(NoName, refused, Form, [age, Check(text, Above("age", 0))])
                self.assert_refused(NoName, refused, Form, [One("q", ["a", text])])
                self.assert_refused(NoName, refused, Form, [Some("q", ["a", text])])

    def test_asked_for_by_a_name_they_are_refused_otherwise(self):
        form = Form([Number("age", 0, 9)])
        for text in NO_NAMES:
            with self.subTest(text):
                self.assert_refused(NoQuestion, {"name": text}, form.question, text)
                speaking = One("q", ["a"], where=Above(text, 1))
                self.assert_refused(NoQuestion, {"name": text}, Form, [speaking])

    def test_the_first_that_stands_ahead_is_refused(self):
        refuse_twice([])
        refuse_twice(["a", "b", "c"])
        self.assert_refused(Twice, {"name": "b"}, refuse_twice, ["a", "b", "c", "b", "a"])


if __name__ == "__main__":
    unittest.main()
