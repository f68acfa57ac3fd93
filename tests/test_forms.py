"""Forms that are not refused: [2], [6] and the interface's line for Form."""

import unittest

from skiphall.conds import Above, Below, Both, Either, Is, Not
from skiphall.errors import NoQuestion
from skiphall.forms import Check, Form, Number, One, Rounds, Section, Some
from tests.refusing import RefusalCase
from tests.samples import household


def numbers(many):
    """As many rows as that."""
    return [Number("n" + str(at), 0, 1) for at in range(many)]


class FormTest(RefusalCase):
    def test_methods_stand_in_the_class_itself(self):
        self.assertEqual(Form.__module__, "skiphall.forms")
        for method in ("outline", "names", "question"):
            self.assertIn(method, vars(Form))

    def test_outline_lists_the_rows(self):
        rows = household()
        form = Form(rows)
        self.assertEqual(form.outline(), household())
        for given, told in zip(rows, form.outline()):
            self.assertEqual(given.__class__, told.__class__)
        self.assertIsInstance(form.outline(), list)

    def test_names_lists_the_questions_as_they_stand(self):
        names = ["home", "heads", "pets", "garden", "age", "job", "left"]
        self.assertEqual(Form(household()).names(), names)
        self.assertEqual(Form([One("b", ["x"]), One("a", ["x"])]).names(), ["b", "a"])

    def test_names_leaves_checks_out(self):
        form = Form([Number("b", 0, 1), Check("a", Above("b", 0)), Number("c", 0, 1)])
        self.assertEqual(form.names(), ["b", "c"])

    def test_question_is_the_question(self):
        form = Form(household())
        self.assertEqual(form.question("home"), One("home", ["house", "flat", "none"]))
        self.assertEqual(form.question("heads"), Number("heads", 0, 4))
        self.assertEqual(form.question("garden").where, Is("home", "house"))
        self.assertEqual(form.question("job").options, ("paid", "free"))
        self.assertEqual(form.question(name="left"), Number("left", -5, -1))

    def test_no_question(self):
        form = Form(household())
        for name in ("", "house", "nobody", "HOME", "no name", "homes"):
            with self.subTest(name):
                self.assert_refused(NoQuestion, {"name": name}, form.question, name)

    def test_a_check_is_no_question(self):
        form = Form(household())
        self.assert_refused(NoQuestion, {"name": "room"}, form.question, "room")
        self.assert_refused(NoQuestion, {"name": "old"}, form.question, name="old")

    def test_a_question_that_is_refused_changes_nothing(self):
        form = Form(household())
        self.assertRaises(NoQuestion, form.question, "nobody")
        self.assertRaises(NoQuestion, form.question, "nobody")
        self.assertEqual(form.names(), Form(household()).names())
        self.assertEqual(form, Form(household()))

    def test_rows_by_name_and_as_a_tuple(self):
        self.assertEqual(Form(rows=household()), Form(household()))
        self.assertEqual(Form(tuple(household())), Form(household()))
        self.assertEqual(Form(tuple(household())).outline(), household())

    def test_alike_where_the_rows_are(self):
        self.assertIs(Form(household()) == Form(household()), True)
        self.assertIs(Form(household()) != Form(household()), False)

    def test_unlike_where_the_rows_are(self):
        form = Form(household())
        self.assertIs(form == Form(household()[:-1]), False)
        self.assertIs(form != Form(household()[:-1]), True)
        self.assertNotEqual(form, Form(household() + [Number("more", 0, 1)]))
        self.assertNotEqual(Form(numbers(2)), Form(numbers(2)[::-1]))
        self.assertNotEqual(Form(numbers(2)), Form([Section(numbers(2))]))
        self.assertNotEqual(Form(numbers(1)), Form([Number("n0", 0, 2)]))

    def test_unlike_where_a_check_is(self):
        number = Number("a", 0, 9)
        one = Form([number, Check("c", Above("a", 3))])
        self.assertNotEqual(one, Form([number, Check("c", Above("a", 4))]))
        self.assertNotEqual(one, Form([number, Check("d", Above("a", 3))]))

    def test_unlike_to_other_things(self):
        form = Form(numbers(1))
        for thing in (None, 1, "n0", numbers(1), tuple(numbers(1)), Section(numbers(1)), Number("n0", 0, 1)):
            self.assertIs(form == thing, False)

    def test_what_is_handed_in_stays(self):
        rows = household()
        Form(rows)
        self.assertEqual(rows, household())
        options = ["x", "y"]
        Form([One("a", options)])
        self.assertEqual(options, ["x", "y"])

    def test_what_is_handed_in_stays_where_it_is_refused(self):
        rows = numbers(41)
        self.assertRaises(ValueError, Form, rows)
        self.assertEqual(rows, numbers(41))

    def test_what_is_changed_later_changes_nothing(self):
        rows, inner, options = household(), [Number("in", 0, 1)], ["x", "y"]
        form = Form(rows + [Section(inner), One("last", options)])
        names = form.names()
        rows.clear()
        inner.append(Number("more", 0, 1))
        options.reverse()
        self.assertEqual(form.names(), names)
        wanted = household() + [Section([Number("in", 0, 1)]), One("last", ["x", "y"])]
        self.assertEqual(form.outline(), wanted)
        self.assertEqual(form, Form(wanted))

    def test_the_very_list_that_is_handed_in_is_changed_later(self):
        rows = numbers(3)
        form = Form(rows)
        rows.pop()
        rows.append(One("other", ["x"]))
        self.assertEqual(form.outline(), numbers(3))
        self.assertEqual(form.names(), ["n0", "n1", "n2"])
        self.assert_refused(NoQuestion, {"name": "other"}, form.question, "other")

    def test_each_list_told_is_a_new_one(self):
        form = Form(household())
        self.assertIsNot(form.outline(), form.outline())
        self.assertIsNot(form.names(), form.names())
        form.outline().clear()
        form.names().append("more")
        self.assertEqual(form.outline(), household())
        self.assertEqual(form.names(), ["home", "heads", "pets", "garden", "age", "job", "left"])


class LimitsTest(RefusalCase):
    """What stands just within the limits is no reason to refuse."""

    def test_one_row_and_forty_rows(self):
        self.assertEqual(len(Form(numbers(1)).names()), 1)
        self.assertEqual(len(Form(numbers(40)).names()), 40)

    def test_forty_rows_with_those_within_rows(self):
        form = Form([Number("many", 0, 4), Section([Section(numbers(17))]), Rounds("many", [
            Section([Number("m" + str(at), 0, 1) for at in range(18)])])])
        self.assertEqual(len(form.names()), 1 + 17 + 18)

    def test_options(self):
        for many in range(1, 7):
            options = ["o" + str(at) for at in range(many)]
            self.assertEqual(Form([One("a", options)]).question("a").options, tuple(options))
        for many in range(1, 5):
            options = ["o" + str(at) for at in range(many)]
            self.assertEqual(Form([Some("a", options)]).question("a").options, tuple(options))

    def test_names_may_be_options_and_stand_in_more_questions(self):
        Form([One("a", ["a", "b"]), Some("b", ["a", "b"]), Check("c", Is("a", "a"))])

    def test_low_equal_to_high(self):
        for number in (-7, 0, 7):
            self.assertEqual(Form([Number("a", number, number)]).question("a").low, number)

    def test_a_count_from_nought_to_four(self):
        for low in range(0, 5):
            for high in range(low, 5):
                Form([Number("a", low, high), Rounds("a", [Number("b", 0, 1)])])

    def test_two_rounds_side_by_side_and_by_one_count(self):
        Form([
            Number("a", 0, 4),
            Rounds("a", [Number("b", 0, 1)]),
            Section([Rounds("a", [Number("c", 0, 1)], where=Above("a", 1))]),
        ])

    def test_rows_in_rounds_speak_of_the_same_rounds_and_of_outside(self):
        spoken = Both(Above("b", 0), Above("a", 1))
        form = Form([
            Number("a", 0, 4),
            Rounds("a", [
                Number("b", 0, 1),
                Section([Number("c", 0, 1, where=spoken)], where=Above("b", 0)),
                Check("d", Above("c", 0), where=Below("b", 1)),
                Number("e", 0, 1, where=Above("c", 0)),
            ]),
        ])
        self.assertEqual(form.names(), ["a", "b", "c", "e"])

    def test_rows_speak_of_what_stands_in_a_section(self):
        Form([
            Section([Number("a", 0, 4), Section([One("b", ["x"])])]),
            Check("c", Is("b", "x")),
            Rounds("a", [Number("d", 0, 1, where=Is("b", "x"))], where=Above("a", 0)),
        ])

    def test_a_number_spoken_of_may_be_any(self):
        Form([Number("a", 0, 4), Check("b", Either(Above("a", -99), Below("a", 99)))])

    def test_deep_conditions_and_sections(self):
        condition = Is("a", "x")
        for times in range(9):
            condition = Not(condition)
        rows = [Number("b", 0, 1, where=condition)]
        for times in range(10):
            rows = [Section(rows, where=condition)]
        self.assertEqual(Form([One("a", ["x"])] + rows).names(), ["a", "b"])

    def test_thirty_simple_conditions(self):
        left, right = Is("a", "x"), Is("a", "x")
        for times in range(29):
            left, right = Both(left, Is("a", "x")), Either(Is("a", "x"), right)
        Form([One("a", ["x"]), Check("b", left), Check("c", right)])


if __name__ == "__main__":
    unittest.main()
