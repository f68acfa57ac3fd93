"""The texts of answers: [24] and the interface's line for skiphall/texts.py."""

import unittest

from skiphall.errors import BadRow
from skiphall.texts import answers_row, read_answers
from skiphall.walks import walked
from tests.making import Maker
from tests.refusing import RefusalCase

# Texts as they are written, and what they say.
WRITTEN = (
    ("none", {}),
    ("home.0=flat", {("home", 0): "flat"}),
    ("n.0=0", {("n", 0): 0}),
    ("n.0=-1", {("n", 0): -1}),
    ("n.0=10", {("n", 0): 10}),
    ("n.0=999999999999", {("n", 0): 999999999999}),
    ("n.0=-999999999999", {("n", 0): -999999999999}),
    ("pets.0=+", {("pets", 0): ()}),
    ("pets.0=+cat", {("pets", 0): ("cat",)}),
    ("pets.0=+dog+cat+cow+ant", {("pets", 0): ("dog", "cat", "cow", "ant")}),
    ("a.0=x a.1=y", {("a", 0): "x", ("a", 1): "y"}),
    ("a.2=x a.10=y b.1=+ c.0=5", {("a", 2): "x", ("a", 10): "y", ("b", 1): (), ("c", 0): 5}),
    ("a.999999999999=x", {("a", 999999999999): "x"}),
    ("none.0=none", {("none", 0): "none"}),
    ("a1b2c3d4.0=z9999999", {("a1b2c3d4", 0): "z9999999"}),
)


class WriteTest(unittest.TestCase):
    def test_written(self):
        for text, answers in WRITTEN:
            with self.subTest(text):
                before = dict(answers)
                self.assertEqual(answers_row(answers), text)
                turned = {spot: answers[spot] for spot in reversed(answers)}
                self.assertEqual(answers_row(answers=turned), text)
                self.assertEqual(answers, before)

    def test_names_are_sorted_as_texts_and_rounds_as_numbers(self):
        answers = {("b9", 1): 1, ("b10", 9): 2, ("b10", 10): 3, ("a", 3): 4}
        self.assertEqual(answers_row(answers), "a.3=4 b10.9=2 b10.10=3 b9.1=1")

    def test_great_numbers_are_written_too(self):
        self.assertEqual(answers_row({("n", 0): 10 ** 20}), "n.0=1" + "0" * 20)
        self.assertEqual(answers_row({("n", 0): -(10 ** 12)}), "n.0=-1" + "0" * 12)


class ReadTest(unittest.TestCase):
    def test_read(self):
        for text, answers in WRITTEN:
            with self.subTest(text):
                told = read_answers(text)
                self.assertEqual(told, answers)
                self.assertEqual([worth.__class__ for worth in told.values()], [
                    answers[spot].__class__ for spot in told])
                self.assertEqual(read_answers(text=text), answers)

    def test_spots_in_any_order(self):
        self.assertEqual(read_answers("b.1=x a.10=y a.2=+"), {("b", 1): "x", ("a", 10): "y", ("a", 2): ()})

    def test_options_in_the_order_in_which_they_stand(self):
        self.assertEqual(read_answers("a.0=+b+a+c"), {("a", 0): ("b", "a", "c")})
        many = ["o" + str(at) for at in range(30)]
        self.assertEqual(read_answers("a.0=+" + "+".join(many)), {("a", 0): tuple(many)})

    def test_the_dict_is_the_asker_s_own(self):
        for text in ("none", "a.0=x"):
            read_answers(text)[("b", 0)] = 1
            self.assertNotIn(("b", 0), read_answers(text))

    def test_what_is_written_is_read(self):
        for seed in range(150):
            maker = Maker(seed)
            form = maker.form()
            counted = walked(form, maker.answers(form)).counted
            self.assertEqual(read_answers(answers_row(counted)), counted)


class ReadRefusedTest(RefusalCase):
    def assert_place(self, place, text):
        self.assert_refused(BadRow, {"row": 0, "place": place}, read_answers, text)

    def assert_no_part(self, part):
        """A part that is not so is told wherever it stands."""
        self.assert_place(0, part)
        self.assert_place(0, part + " b.0=x")
        self.assert_place(1, "b.0=x " + part)
        self.assert_place(2, "b.0=x c.0=1 " + part + " " + part)

    def test_a_text_without_signs_and_empty_parts(self):
        self.assert_place(0, "")
        self.assert_place(0, " ")
        self.assert_place(0, " a.0=x")
        self.assert_place(1, "a.0=x ")
        self.assert_place(1, "a.0=x  b.0=x")
        self.assert_no_part("")

    def test_none_beside_other_parts(self):
        self.assert_place(0, "none none")
        self.assert_place(1, "a.0=x none")
        self.assert_place(0, "none a.0=x")
        self.assert_place(0, "none ")
        self.assert_place(0, "None")

    def test_parts_without_their_signs_or_with_more_of_them(self):
        for part in (
            "a0=x", "a.0x", "a", "a.0", "a=x", ".", "=", ".=", "a.0=x=y", "a.0==x", "=a.0=x", "a..0=x", "a.0.1=x",
            ".a.0=x", "a.0=x.y", "a.0=.x", "a=0.x", "a.0=", ".0=x", "a.=x", "a.0=x,b", "a.0=x;",
        ):
            with self.subTest(part):
                self.assert_no_part(part)

    def test_names_that_are_none(self):
        for name in ("A", "1a", "abcdefghi", "a_b", "a-b", "-", "+", "*", "a+b"):
            with self.subTest(name):
                self.assert_no_part(name + ".0=x")

    def test_rounds_that_are_none(self):
        for k in ("01", "00", "-1", "-0", "+1", "x", "1x", "1 ", "1000000000000", "0000000000000", "1_0"):
            with self.subTest(k):
                self.assert_place(0, f"a.{k}=x")

    def test_numbers_that_are_none(self):
        for number in (
            "-0", "01", "-01", "00", "--1", "-", "1-", "1x", "1000000000000", "-1000000000000", "1_0", "1.0", "-x",
        ):
            with self.subTest(number):
                self.assert_no_part("a.0=" + number)

    def test_options_that_are_none(self):
        for answer in (
            "X", "abcdefghi", "x_y", "++", "+x+", "+x++y", "x+", "x+y", "+X", "+1", "+x+1", "+-1", "+abcdefghi",
            "-+", "?",
        ):
            with self.subTest(answer):
                self.assert_place(0, "a.0=" + answer)

    def test_options_twice(self):
        for answer in ("+x+x", "+x+y+x", "+x+y+y"):
            self.assert_no_part("a.0=" + answer)

    def test_a_spot_twice(self):
        self.assert_place(1, "a.0=x a.0=x")
        self.assert_place(2, "a.0=x b.0=x a.0=y c.0=?")
        self.assert_place(3, "a.0=x a.1=x b.0=x a.1=+ a.0=x")
        self.assert_place(1, "a.0=x a.0=?")

    def test_the_first_part_that_is_not_so(self):
        self.assert_place(1, "a.0=x b.0=X c.0=X a.0=x")
        self.assert_place(2, "a.0=x b.0=x c a.0=x")


if __name__ == "__main__":
    unittest.main()
