"""Editions: [11], [12] and the interface's lines for skiphall/editions.py."""

import unittest

from skiphall.conds import Above
from skiphall.editions import Edition, led, led_over
from skiphall.errors import BadCount, NoName, NoQuestion, Twice
from skiphall.forms import Check, Form, Number, One, Rounds, Section, Some
from tests.making import Maker
from tests.refusing import RefusalCase
from tests.samples import household

FORM = Form([One("a", ["x", "y"]), Some("b", ["x", "y"]), Number("c", 0, 4), Check("d", Above("c", 0))])


def numbers(*names):
    """A form of Numbers of these names, from 0 to 9."""
    return Form([Number(name, 0, 9) for name in names])


class EditionTest(RefusalCase):
    def test_fields(self):
        self.assertEqual(vars(Edition(1, FORM)), {"number": 1, "form": FORM, "calls": ()})
        made = Edition(2, FORM, calls=[("old", "a"), ("b", "c")])
        self.assertEqual(vars(made), {"number": 2, "form": FORM, "calls": (("old", "a"), ("b", "c"))})
        self.assertEqual(Edition(number=10 ** 9, form=FORM, calls=()).number, 10 ** 9)

    def test_calls_stand_behind_a_star(self):
        self.assertRaises(TypeError, Edition, 2, FORM, [("a", "b")])

    def test_a_list_or_a_tuple_of_calls(self):
        pairs = [("old", "a"), ("b", "c")]
        self.assertEqual(Edition(2, FORM, calls=pairs), Edition(2, FORM, calls=tuple(pairs)))
        self.assertEqual(Edition(1, FORM, calls=[]), Edition(1, FORM))

    def test_what_is_handed_in_stays_and_is_changed_later(self):
        pairs = [("old", "a"), ("b", "c")]
        made = Edition(2, FORM, calls=pairs)
        self.assertEqual(pairs, [("old", "a"), ("b", "c")])
        pairs.pop()
        pairs[0] = ("older", "b")
        self.assertEqual(made.calls, (("old", "a"), ("b", "c")))
        self.assertEqual(led({("old", 0): "x", ("b", 0): 3}, made), {("a", 0): "x", ("c", 0): 3})

    def test_alike_where_all_three_are(self):
        def made():
            return Edition(2, Form(household()), calls=[("old", "home")])

        self.assertIs(made() == made(), True)
        self.assertIs(made() != made(), False)
        for other in (
            Edition(3, Form(household()), calls=[("old", "home")]),
            Edition(2, Form(household()[:-1]), calls=[("old", "home")]),
            Edition(2, Form(household()), calls=[("older", "home")]),
            Edition(2, Form(household()), calls=[("old", "heads")]),
            Edition(2, Form(household()), calls=[("old", "home"), ("more", "heads")]),
            Edition(2, Form(household())),
        ):
            self.assertIs(made() == other, False)
            self.assertIs(other != made(), True)

    def test_unlike_to_other_things(self):
        for thing in (None, 1, FORM, (1, FORM, ()), "1"):
            self.assertIs(Edition(1, FORM) == thing, False)

    def test_calls_that_are_fine(self):
        Edition(2, FORM, calls=[("a", "a"), ("b", "c"), ("c", "b")])
        Edition(2, numbers("p", "q"), calls=[("p", "q"), ("q", "p")])
        Edition(2, numbers("p"), calls=[("nobody", "p")])
        Edition(2, Form([Number("n", 0, 4), Rounds("n", [Number("in", 0, 1)])]), calls=[("out", "in")])


class EditionRefusedTest(RefusalCase):
    def assert_edition(self, kind, fields, number, form, calls):
        before = list(calls)
        self.assert_refused(kind, fields, Edition, number, form, calls=calls)
        self.assert_refused(kind, fields, Edition, number=number, form=form, calls=tuple(calls))
        self.assertEqual(calls, before)

    def test_number_below_one(self):
        for number in (0, -1, -(10 ** 20)):
            self.assert_edition(BadCount, {"what": "edition", "count": number}, number, FORM, [])
            self.assert_edition(BadCount, {"what": "edition", "count": number}, number, FORM, [("A", "B")])

    def test_number_one_with_calls(self):
        for calls in ([("old", "a")], [("A", "B"), ("A", "B")], [("old", "a"), ("old", "a"), ("x", "nobody")]):
            self.assert_edition(BadCount, {"what": "calls", "count": len(calls)}, 1, FORM, calls)

    def test_names_that_are_none(self):
        self.assert_edition(NoName, {"name": "A"}, 2, FORM, [("A", "B")])
        self.assert_edition(NoName, {"name": "B"}, 2, FORM, [("a", "B")])
        self.assert_edition(NoName, {"name": "B"}, 2, FORM, [("a", "B"), ("A", "b")])
        self.assert_edition(NoName, {"name": ""}, 2, FORM, [("a", "b"), ("", "C")])
        self.assert_edition(NoName, {"name": "abcdefghi"}, 2, FORM, [("a", "b"), ("c", "abcdefghi"), ("D", "a")])

    def test_names_ahead_of_twice(self):
        self.assert_edition(NoName, {"name": "C"}, 2, FORM, [("a", "b"), ("a", "b"), ("c", "C")])

    def test_an_old_name_twice(self):
        self.assert_edition(Twice, {"name": "p"}, 2, FORM, [("p", "a"), ("p", "b")])
        self.assert_edition(Twice, {"name": "q"}, 2, FORM, [("p", "a"), ("q", "b"), ("q", "c"), ("p", "c")])

    def test_a_new_name_twice(self):
        self.assert_edition(Twice, {"name": "a"}, 2, FORM, [("p", "a"), ("q", "a")])
        self.assert_edition(Twice, {"name": "b"}, 2, FORM, [("p", "a"), ("q", "b"), ("r", "b"), ("s", "a")])

    def test_an_old_name_twice_ahead_of_a_new_one(self):
        self.assert_edition(Twice, {"name": "p"}, 2, FORM, [("r", "a"), ("q", "a"), ("p", "b"), ("p", "c")])

    def test_an_old_name_that_stands_as_a_new_one_too(self):
        Edition(2, FORM, calls=[("p", "a"), ("a", "b")])

    def test_a_new_name_of_no_question(self):
        self.assert_edition(NoQuestion, {"name": "nobody"}, 2, FORM, [("a", "nobody")])
        self.assert_edition(NoQuestion, {"name": "p"}, 2, FORM, [("a", "b"), ("b", "p"), ("c", "q")])
        self.assert_edition(NoQuestion, {"name": "d"}, 2, FORM, [("c", "d")])
        self.assert_edition(NoQuestion, {"name": "x"}, 2, FORM, [("a", "x")])

    def test_twice_ahead_of_no_question(self):
        self.assert_edition(Twice, {"name": "p"}, 2, FORM, [("p", "nobody"), ("p", "a")])
        self.assert_edition(Twice, {"name": "nobody"}, 2, FORM, [("p", "nobody"), ("q", "nobody")])


class LedCase(unittest.TestCase):
    def assert_led(self, answers, edition, wanted):
        before = dict(answers)
        told = led(answers, edition)
        self.assertEqual(told, wanted)
        self.assertEqual([answer.__class__ for answer in told.values()], [
            wanted[spot].__class__ for spot in told])
        self.assertEqual(answers, before)
        self.assertIsNot(told, answers)


class LedTest(LedCase):
    def test_without_calls_all_that_fits_stays(self):
        answers = {("a", 0): "x", ("b", 0): (), ("c", 0): 4}
        self.assert_led(answers, Edition(2, FORM), answers)
        self.assert_led(answers, Edition(1, FORM), answers)
        self.assert_led({}, Edition(2, FORM), {})

    def test_a_new_name(self):
        edition = Edition(2, numbers("new", "kept"), calls=[("old", "new")])
        self.assert_led({("old", 0): 1, ("kept", 0): 2}, edition, {("new", 0): 1, ("kept", 0): 2})

    def test_a_new_name_in_each_round(self):
        form = Form([Number("n", 0, 4), Rounds("n", [Number("new", 0, 9)])])
        edition = Edition(2, form, calls=[("old", "new")])
        answers = {("old", k): k for k in range(1, 5)}
        self.assert_led(answers, edition, {("new", k): k for k in range(1, 5)})

    def test_two_names_exchanged(self):
        edition = Edition(2, numbers("p", "q"), calls=[("p", "q"), ("q", "p")])
        self.assert_led({("p", 0): 1, ("q", 0): 2}, edition, {("q", 0): 1, ("p", 0): 2})
        self.assert_led({("p", 0): 1}, edition, {("q", 0): 1})

    def test_names_passed_on(self):
        edition = Edition(2, numbers("p", "q", "r"), calls=[("p", "q"), ("q", "r")])
        self.assert_led({("p", 0): 1, ("q", 0): 2, ("r", 0): 3}, edition, {("q", 0): 1, ("r", 0): 2})
        self.assert_led({("r", 0): 3}, edition, {})

    def test_a_question_whose_name_was_given_to_another_one_is_no_more(self):
        edition = Edition(2, numbers("p"), calls=[("q", "p")])
        self.assert_led({("p", 0): 1, ("q", 0): 2}, edition, {("p", 0): 2})
        self.assert_led({("q", 0): 2, ("p", 0): 1}, edition, {("p", 0): 2})
        self.assert_led({("p", 0): 1}, edition, {})

    def test_a_name_called_what_it_was(self):
        edition = Edition(2, numbers("p", "q"), calls=[("p", "p")])
        self.assert_led({("p", 0): 1, ("q", 0): 2}, edition, {("p", 0): 1, ("q", 0): 2})

    def test_an_old_name_that_is_a_question_again(self):
        edition = Edition(2, numbers("p", "q"), calls=[("p", "q")])
        self.assert_led({("p", 0): 1}, edition, {("q", 0): 1})

    def test_a_name_of_no_question(self):
        answers = {("d", 0): "x", ("nobody", 0): 1, ("No Name", 2): None, ("", 0): (), ("c", 0): 1}
        self.assert_led(answers, Edition(2, FORM), {("c", 0): 1})

    def test_what_is_no_answer_of_the_new_question(self):
        for spot, answers in (
            (("a", 0), ["z", "", None, True, 0, ("x",), ["x"]]),
            (("b", 0), ["x", None, False, 0, ("y", "x"), ("x", "x"), ("z",), ["x"], []]),
            (("c", 0), [-1, 5, True, False, None, "1", (), (1,)]),
        ):
            for answer in answers:
                with self.subTest(spot, answer=answer):
                    self.assert_led({spot: answer}, Edition(2, FORM), {})
                    called = Edition(2, FORM, calls=[("old", spot[0])])
                    self.assert_led({("old", 0): answer}, called, {})

    def test_an_answer_of_another_kind(self):
        edition = Edition(2, FORM, calls=[("a", "b"), ("b", "a")])
        self.assert_led({("a", 0): "x", ("b", 0): ("x",), ("c", 0): 3}, edition, {("c", 0): 3})

    def test_into_rounds_and_out_of_them(self):
        form = Form([Number("n", 0, 4), Section([Rounds("n", [Section([Number("in", 0, 9)])])]), Number("out", 0, 9)])
        answers = {}
        for name in ("n", "in", "out"):
            for k in (-1, 0, 1, 4, 5, 99):
                answers[(name, k)] = 1
        kept = {("in", k): 1 for k in (-1, 1, 4, 5, 99)}
        self.assert_led(answers, Edition(2, form), {**kept, ("n", 0): 1, ("out", 0): 1})
        edition = Edition(2, form, calls=[("in", "out"), ("out", "in")])
        self.assert_led(answers, edition, {**kept, ("n", 0): 1, ("out", 0): 1})

    def test_what_is_not_asked_stays(self):
        form = Form([Number("c", 0, 9), Number("e", 0, 9, where=Above("c", 5))])
        self.assert_led({("c", 0): 1, ("e", 0): 1}, Edition(2, form), {("c", 0): 1, ("e", 0): 1})

    def test_what_is_changed_later_changes_nothing(self):
        answers = {("a", 0): "x", ("c", 0): 4}
        told = led(answers, Edition(2, FORM))
        answers.clear()
        self.assertEqual(told, {("a", 0): "x", ("c", 0): 4})
        answers = {("a", 0): "x"}
        led(answers, Edition(2, FORM)).clear()
        self.assertEqual(answers, {("a", 0): "x"})

    def test_by_the_names_of_the_arguments(self):
        self.assertEqual(led(answers={("a", 0): "x"}, edition=Edition(2, FORM)), {("a", 0): "x"})


class LedOverTest(LedCase):
    EDITIONS = [
        Edition(2, numbers("p", "q"), calls=[("p", "q"), ("q", "p")]),
        Edition(3, numbers("r", "q"), calls=[("p", "r")]),
        Edition(4, Form([Number("q", 0, 9), Number("r", 5, 9)])),
    ]

    def test_over_none_the_same_answers_whatever_they_are(self):
        answers = {("No Name", -7): None, ("a", 0): True, ("", 1): ("x", "x"), ("b", 0): "?", ("c", 3): 4}
        for none in ([], ()):
            told = led_over(answers, none)
            self.assertEqual(told, answers)
            self.assertIs(told[("a", 0)], True)
            self.assertIsNot(told, answers)
            told.clear()
            self.assertEqual(len(answers), 5)

    def test_over_one(self):
        answers = {("p", 0): 1, ("q", 0): 2, ("z", 0): 3}
        self.assertEqual(led_over(answers, self.EDITIONS[:1]), led(answers, self.EDITIONS[0]))
        self.assertEqual(led_over(answers, self.EDITIONS[:1]), {("q", 0): 1, ("p", 0): 2})

    def test_over_several_in_order(self):
        answers = {("p", 0): 1, ("q", 0): 2, ("r", 0): 3}
        self.assertEqual(led_over(answers, self.EDITIONS[:2]), {("q", 0): 1, ("r", 0): 2})
        self.assertEqual(led_over(answers, self.EDITIONS), {("q", 0): 1})
        self.assertEqual(led_over({("p", 0): 1, ("q", 0): 6}, tuple(self.EDITIONS)), {("q", 0): 1, ("r", 0): 6})
        self.assertEqual(led_over(answers, self.EDITIONS[1:]), {("q", 0): 2})

    def test_what_is_left_out_does_not_come_again(self):
        editions = [Edition(2, numbers("a")), Edition(3, numbers("a", "b"))]
        self.assertEqual(led_over({("a", 0): 1, ("b", 0): 1}, editions), {("a", 0): 1})

    def test_what_is_handed_in_stays_and_is_changed_later(self):
        answers, editions = {("p", 0): 1, ("q", 0): 2}, list(self.EDITIONS)
        told = led_over(answers=answers, editions=editions)
        self.assertEqual(answers, {("p", 0): 1, ("q", 0): 2})
        self.assertEqual(editions, self.EDITIONS)
        answers.clear()
        editions.clear()
        self.assertEqual(told, {("q", 0): 1})
        self.assertEqual(led_over({("p", 0): 1}, self.EDITIONS), {("q", 0): 1})

    def test_led_twice_by_one_without_calls_is_led_once(self):
        maker = Maker(12)
        for times in range(200):
            form = maker.form()
            answers = {**maker.answers(form), ("nobody", 0): 1, ("nobody", 1): "x"}
            edition = Edition(1 + times, form)
            told = led(answers, edition)
            self.assertEqual(led_over(answers, [edition, edition]), told)
            for name, k in told:
                self.assertIn(name, form.names())


if __name__ == "__main__":
    unittest.main()
