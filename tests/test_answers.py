"""Which answers are answers of a question: [4], [8]."""

import unittest

from skiphall.answers import is_answer
from skiphall.forms import Number, One, Some

ONE = One("one", ["x", "y", "z"])
SOME = Some("some", ["x", "y", "z"])
NUMBER = Number("number", -1, 3)


class AnswersTest(unittest.TestCase):
    def assert_answers(self, question, answers):
        for answer in answers:
            with self.subTest(question.name, answer=answer):
                self.assertIs(is_answer(question, answer), True)

    def assert_none(self, question, answers):
        for answer in answers:
            with self.subTest(question.name, answer=answer):
                self.assertIs(is_answer(question, answer), False)

    def test_of_a_one(self):
        self.assert_answers(ONE, ["x", "y", "z"])
        self.assert_none(ONE, ["", "w", "X", "xy", "one", None, True, False, 0, 1, (), ("x",), ["x"]])

    def test_of_a_some(self):
        self.assert_answers(SOME, [
            (), ("x",), ("y",), ("z",), ("x", "y"), ("x", "z"), ("y", "z"), ("x", "y", "z"),
        ])
        self.assert_none(SOME, ["", "x", "xy", None, True, False, 0, 1, ("w",), ("x", "w"), ("w", "x"), ("",)])

    def test_of_a_some_out_of_order_or_twice(self):
        self.assert_none(SOME, [("y", "x"), ("z", "x", "y"), ("x", "x"), ("x", "y", "x"), ("x", "y", "y")])

    def test_of_a_some_as_a_list(self):
        self.assert_none(SOME, [[], ["x"], ["x", "y", "z"]])

    def test_of_a_number(self):
        self.assert_answers(NUMBER, [-1, 0, 1, 2, 3])
        self.assert_none(NUMBER, [-2, 4, 10 ** 20, -(10 ** 20), "", "0", "1", None, (), (1,), ("1",)])

    def test_true_and_false_are_no_numbers(self):
        self.assert_none(NUMBER, [True, False])

    def test_of_a_number_that_can_be_one_alone(self):
        self.assert_answers(Number("n", 7, 7), [7])
        self.assert_none(Number("n", 7, 7), [6, 8])


if __name__ == "__main__":
    unittest.main()
