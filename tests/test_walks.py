"""Walks: [7], [8], [9], the last sentence on asked questions of [5], and the lines for skiphall/walks.py."""

import unittest

from skiphall.conds import Above, Below, Both, Either, Has, Is, Not
from skiphall.forms import Check, Form, Number, One, Rounds, Section, Some
from skiphall.walks import Walk, walked
from tests.making import Maker
from tests.samples import household

FLAT = {
    ("home", 0): "flat",
    ("heads", 0): 2,
    ("pets", 0): ("cat",),
    ("age", 1): 40,
    ("job", 1): "paid",
    ("age", 2): 9,
    ("left", 0): -3,
}


def spots(*names):
    """Spots outside of rounds."""
    return [(name, 0) for name in names]


class WalkCase(unittest.TestCase):
    def assert_walk(self, form, answers, word, spot, asked):
        """The walk ends so, asks just that, and counts just the answers there but at an open spot."""
        before = dict(answers)
        walk = walked(form, answers)
        self.assertIsInstance(walk, Walk)
        self.assertEqual(walk.word, word)
        self.assertEqual(walk.spot, spot)
        self.assertEqual(walk.asked, asked)
        counted = asked[:-1] if word == "open" else asked
        self.assertEqual(walk.counted, {at: answers[at] for at in counted})
        self.assertIs(walk.asked.__class__, list)
        self.assertIs(walk.counted.__class__, dict)
        self.assertEqual(answers, before)

    def assert_holds(self, rows, answers, condition, holds):
        """Behind these rows a condition holds, or does not, in a where and in a must."""
        form = Form(rows + [Number("last", 0, 1, where=condition)])
        walk = walked(form, answers)
        self.assertEqual(("last", 0) in walk.asked, holds)
        self.assertEqual(walk.word, "open" if holds else "done")
        walk = walked(Form(rows + [Check("last", condition)]), answers)
        self.assertEqual((walk.word, walk.spot), ("done", None) if holds else ("barred", ("last", 0)))


class EndsTest(WalkCase):
    def test_no_answers(self):
        self.assert_walk(Form(household()), {}, "open", ("home", 0), spots("home"))

    def test_done(self):
        asked = spots("home", "heads", "pets") + [("age", 1), ("job", 1), ("age", 2), ("left", 0)]
        self.assert_walk(Form(household()), FLAT, "done", None, asked)

    def test_open_at_each_spot_in_its_turn(self):
        asked = spots("home", "heads", "pets") + [("age", 1), ("job", 1), ("age", 2), ("left", 0)]
        for at, spot in enumerate(asked):
            with self.subTest(spot):
                answers = {key: FLAT[key] for key in FLAT if key != spot}
                self.assert_walk(Form(household()), answers, "open", spot, asked[:at + 1])

    def test_the_order_of_the_answers_is_nothing(self):
        answers = {key: FLAT[key] for key in reversed(list(FLAT))}
        one, two = walked(Form(household()), FLAT), walked(Form(household()), answers)
        self.assertEqual(vars(one), vars(two))
        self.assertEqual(list(one.counted), list(two.counted))

    def test_barred(self):
        answers = {**FLAT, ("heads", 0): 4, ("pets", 0): ("dog",)}
        self.assert_walk(Form(household()), answers, "barred", ("room", 0), spots("home", "heads", "pets"))

    def test_barred_in_a_round(self):
        answers = {**FLAT, ("age", 2): 91, ("job", 2): "paid"}
        asked = spots("home", "heads", "pets") + [("age", 1), ("job", 1), ("age", 2), ("job", 2)]
        self.assert_walk(Form(household()), answers, "barred", ("old", 2), asked)

    def test_a_check_passed_over_does_not_bar(self):
        answers = {**FLAT, ("heads", 0): 4, ("age", 3): 1, ("age", 4): 2}
        asked = spots("home", "heads", "pets") + [("age", 1), ("job", 1), ("age", 2), ("age", 3), ("age", 4)]
        self.assert_walk(Form(household()), answers, "done", None, asked + spots("left"))

    def test_a_check_that_holds_goes_on_and_is_not_asked(self):
        form = Form([Number("a", 0, 9), Check("c", Above("a", 3)), Number("b", 0, 9)])
        self.assert_walk(form, {("a", 0): 4, ("c", 0): 4}, "open", ("b", 0), spots("a", "b"))
        self.assert_walk(form, {("a", 0): 3, ("b", 0): 3}, "barred", ("c", 0), spots("a"))

    def test_done_behind_a_check_or_a_row_passed_over(self):
        form = Form([Number("a", 0, 9), Number("b", 0, 9, where=Above("a", 3))])
        self.assert_walk(form, {("a", 0): 3, ("b", 0): 3}, "done", None, spots("a"))
        form = Form([Number("a", 0, 9), Check("b", Above("a", 3))])
        self.assert_walk(form, {("a", 0): 4, ("b", 0): 3}, "done", None, spots("a"))


class PassedOverTest(WalkCase):
    def test_all_within_a_section(self):
        asked = spots("home", "left")
        answers = {**FLAT, ("home", 0): "none"}
        self.assert_walk(Form(household()), answers, "done", None, asked)
        self.assert_walk(Form(household()), {("home", 0): "none"}, "open", ("left", 0), asked)

    def test_sections_and_rounds_and_checks_within_a_section(self):
        inner = [
            Number("a", 0, 4),
            Section([Number("b", 0, 4), Check("c", Above("b", 99))]),
            Rounds("n", [Number("d", 0, 4)]),
        ]
        form = Form([Number("n", 0, 4), Section(inner, where=Above("n", 3)), Number("e", 0, 4)])
        answers = {("n", 0): 3, ("a", 0): 1, ("b", 0): 1, ("d", 1): 1, ("e", 0): 1}
        self.assert_walk(form, answers, "done", None, spots("n", "e"))
        self.assert_walk(form, {**answers, ("n", 0): 4}, "barred", ("c", 0), spots("n", "a", "b"))

    def test_all_within_rounds(self):
        answers = {**FLAT, ("pets", 0): ("dog",)}
        self.assert_walk(Form(household()), answers, "done", None, spots("home", "heads", "pets", "left"))

    def test_one_row_alone(self):
        answers = {**FLAT, ("home", 0): "house", ("pets", 0): ()}
        self.assert_walk(Form(household()), answers, "open", ("garden", 0), spots("home", "heads", "pets", "garden"))


class AnswersTest(WalkCase):
    def test_an_answer_that_is_none_leaves_the_walk_open(self):
        form = Form([Number("a", 0, 1), One("b", ["x"]), Some("c", ["x", "y"])])
        good = {("a", 0): 1, ("b", 0): "x", ("c", 0): ("x", "y")}
        self.assert_walk(form, good, "done", None, spots("a", "b", "c"))
        for answer in (True, False, None, "1", (), -1, 2, ("x",)):
            self.assert_walk(form, {**good, ("a", 0): answer}, "open", ("a", 0), spots("a"))
        for answer in (True, None, 0, "", "y", ("x",), ()):
            self.assert_walk(form, {**good, ("b", 0): answer}, "open", ("b", 0), spots("a", "b"))
        for answer in (True, None, 0, "x", ["x"], ["x", "y"], [], ("y", "x"), ("x", "x"), ("z",), ("x", "z")):
            self.assert_walk(form, {**good, ("c", 0): answer}, "open", ("c", 0), spots("a", "b", "c"))

    def test_answers_at_spots_of_no_question(self):
        more = {
            ("nobody", 0): 1,
            ("No Name", 7): None,
            ("", -1): True,
            ("room", 0): "x",
            ("home", 1): "house",
            ("age", 0): 5,
            ("age", 3): 5,
            ("age", -1): 5,
            ("garden", 0): "yes",
        }
        asked = spots("home", "heads", "pets") + [("age", 1), ("job", 1), ("age", 2), ("left", 0)]
        self.assert_walk(Form(household()), {**more, **FLAT}, "done", None, asked)
        self.assert_walk(Form(household()), more, "open", ("home", 0), spots("home"))


class RoundsTest(WalkCase):
    FORM = Form([Number("n", 0, 4), Rounds("n", [Number("a", 0, 9), Number("b", 0, 9)]), Number("z", 0, 9)])

    def answers(self, times):
        made = {(name, k): k for name in ("a", "b") for k in range(0, 6)}
        return {**made, ("n", 0): times, ("z", 0): 0}

    def test_nought_to_four_times(self):
        for times in range(0, 5):
            asked = [(name, k) for k in range(1, times + 1) for name in ("a", "b")]
            self.assert_walk(self.FORM, self.answers(times), "done", None, spots("n") + asked + spots("z"))

    def test_open_in_the_last_round(self):
        answers = self.answers(4)
        del answers[("b", 4)]
        asked = [(name, k) for k in range(1, 5) for name in ("a", "b")]
        self.assert_walk(self.FORM, answers, "open", ("b", 4), spots("n") + asked)

    def test_the_count_is_not_asked(self):
        form = Form([
            Number("a", 0, 9),
            Number("n", 1, 4, where=Above("a", 5)),
            Rounds("n", [Number("b", 0, 9), Check("c", Above("b", 99))]),
            Number("z", 0, 9),
        ])
        answers = {("a", 0): 5, ("n", 0): 2, ("b", 1): 1, ("b", 2): 1, ("z", 0): 1}
        self.assert_walk(form, answers, "done", None, spots("a", "z"))
        self.assert_walk(form, {**answers, ("a", 0): 6}, "barred", ("c", 1), spots("a", "n") + [("b", 1)])

    def test_rounds_in_a_section_and_sections_in_rounds(self):
        rounds = Rounds("n", [Section([Number("a", 0, 9), Section([Number("b", 0, 9)])])])
        form = Form([Number("n", 0, 4), Section([Section([rounds])])])
        answers = {("n", 0): 2, ("a", 1): 1, ("b", 1): 1, ("a", 2): 1, ("b", 0): 1}
        asked = spots("n") + [("a", 1), ("b", 1), ("a", 2), ("b", 2)]
        self.assert_walk(form, answers, "open", ("b", 2), asked)

    def test_two_rounds_by_one_count(self):
        form = Form([Number("n", 0, 4), Rounds("n", [Number("a", 0, 9)]), Rounds("n", [Number("b", 0, 9)])])
        answers = {("n", 0): 2, ("a", 1): 1, ("a", 2): 1, ("b", 1): 1, ("b", 2): 1}
        asked = spots("n") + [("a", 1), ("a", 2), ("b", 1), ("b", 2)]
        self.assert_walk(form, answers, "done", None, asked)

    def test_rows_speak_of_the_same_round(self):
        form = Form([Number("n", 0, 4), Rounds("n", [
            Number("a", 0, 9),
            Number("b", 0, 9, where=Above("a", 4)),
            Check("c", Below("b", 8), where=Above("b", 6)),
        ])])
        answers = {("n", 0): 3, ("a", 1): 5, ("a", 2): 4, ("a", 3): 5, ("b", 1): 7, ("b", 2): 8, ("b", 3): 8}
        asked = spots("n") + [("a", 1), ("b", 1), ("a", 2), ("a", 3), ("b", 3)]
        self.assert_walk(form, answers, "barred", ("c", 3), asked)

    def test_what_was_asked_in_another_round_is_not_spoken_of(self):
        form = Form([Number("n", 0, 4), Rounds("n", [
            Number("a", 0, 9),
            Number("b", 0, 9, where=Above("a", 4)),
            Number("c", 0, 9, where=Above("b", 0)),
        ])])
        answers = {("n", 0): 2, ("a", 1): 5, ("b", 1): 1, ("c", 1): 1, ("a", 2): 4, ("b", 0): 1, ("b", 2): 1}
        self.assert_walk(form, answers, "done", None, spots("n") + [("a", 1), ("b", 1), ("c", 1), ("a", 2)])

    def test_rows_speak_of_a_question_outside(self):
        form = Form([Number("n", 0, 4), Number("a", 0, 9), Rounds("n", [
            Number("b", 0, 9, where=Above("a", 4)),
            Number("c", 0, 9, where=Both(Above("a", 4), Above("b", 4))),
            Check("d", Either(Below("a", 6), Below("n", 2))),
        ])])
        answers = {("n", 0): 2, ("a", 0): 5, ("a", 1): 0, ("b", 1): 5, ("b", 2): 4, ("c", 1): 1}
        asked = spots("n", "a") + [("b", 1), ("c", 1), ("b", 2)]
        self.assert_walk(form, answers, "done", None, asked)
        self.assert_walk(form, {**answers, ("a", 0): 4, ("a", 1): 9}, "done", None, spots("n", "a"))
        self.assert_walk(form, {**answers, ("a", 0): 6}, "barred", ("d", 1), asked[:4])

    def test_where_of_rounds_speaks_of_a_question_outside(self):
        form = Form([Number("n", 0, 4), Rounds("n", [Number("a", 0, 9)], where=Above("n", 1))])
        self.assert_walk(form, {("n", 0): 1, ("a", 1): 1}, "done", None, spots("n"))
        self.assert_walk(form, {("n", 0): 2, ("a", 1): 1}, "open", ("a", 2), spots("n") + [("a", 1), ("a", 2)])


class ConditionsTest(WalkCase):
    ROWS = [One("one", ["x", "y"]), Some("some", ["x", "y", "z"]), Number("number", -9, 9)]

    def answers(self, one, some, number):
        return {("one", 0): one, ("some", 0): some, ("number", 0): number}

    def test_is(self):
        for answer in ("x", "y"):
            for option in ("x", "y"):
                given = self.answers(answer, (), 0)
                self.assert_holds(self.ROWS, given, Is("one", option), answer == option)

    def test_has(self):
        for answer in ((), ("x",), ("y",), ("x", "z"), ("x", "y", "z")):
            for option in ("x", "y", "z"):
                given = self.answers("x", answer, 0)
                self.assert_holds(self.ROWS, given, Has("some", option), option in answer)

    def test_above_and_below(self):
        for answer in (-9, -1, 0, 1, 9):
            for number in (-100, -9, -2, -1, 0, 1, 2, 9, 100):
                given = self.answers("x", (), answer)
                self.assert_holds(self.ROWS, given, Above("number", number), answer > number)
                self.assert_holds(self.ROWS, given, Below("number", number), answer < number)

    def test_not_both_either(self):
        given = self.answers("x", (), 0)
        truths = {True: Is("one", "x"), False: Is("one", "y")}
        for left in (True, False):
            self.assert_holds(self.ROWS, given, Not(truths[left]), not left)
            self.assert_holds(self.ROWS, given, Not(Not(truths[left])), left)
            for right in (True, False):
                one, two = truths[left], truths[right]
                self.assert_holds(self.ROWS, given, Both(one, two), left and right)
                self.assert_holds(self.ROWS, given, Either(one, two), left or right)
                self.assert_holds(self.ROWS, given, Not(Both(one, two)), not (left and right))
                self.assert_holds(self.ROWS, given, Not(Either(one, two)), not (left or right))

    def test_of_what_is_not_asked_no_simple_one_holds(self):
        rows = [Number("a", 0, 1), Section(self.ROWS, where=Above("a", 0))]
        given = {**self.answers("x", ("x", "y", "z"), 0), ("a", 0): 0}
        simple = [Is("one", "x"), Has("some", "x"), Above("number", -5), Below("number", 5)]
        for condition in simple:
            self.assert_holds(rows, given, condition, False)
            self.assert_holds(rows, given, Not(condition), True)
            self.assert_holds(rows, given, Not(Not(condition)), False)
            for other in simple + [Below("a", 1)]:
                self.assert_holds(rows, given, Both(condition, other), False)
                self.assert_holds(rows, given, Both(Not(condition), other), other == Below("a", 1))
                self.assert_holds(rows, given, Either(condition, other), other == Below("a", 1))
                self.assert_holds(rows, given, Either(other, Not(condition)), True)
            self.assert_holds(rows, {**given, ("a", 0): 1}, condition, True)


class ToldTest(WalkCase):
    def test_by_the_names_of_the_arguments(self):
        walk = walked(form=Form(household()), answers=FLAT)
        self.assertEqual(walk.word, "done")

    def test_the_fields_alone(self):
        self.assertEqual(set(vars(walked(Form(household()), {}))), {"word", "spot", "asked", "counted"})

    def test_what_is_told_is_new_each_time(self):
        form, answers = Form(household()), dict(FLAT)
        wanted = vars(walked(form, answers))
        wanted = {**wanted, "asked": list(wanted["asked"]), "counted": dict(wanted["counted"])}
        walk = walked(form, answers)
        self.assertIsNot(walk.counted, answers)
        walk.asked.clear()
        walk.counted[("home", 0)] = "house"
        del walk.counted[("left", 0)]
        self.assertEqual(answers, FLAT)
        self.assertEqual(vars(walked(form, answers)), wanted)

    def test_what_is_changed_later_changes_nothing(self):
        form, answers = Form(household()), dict(FLAT)
        walk = walked(form, answers)
        answers.clear()
        self.assertEqual(walk.word, "done")
        self.assertEqual(len(walk.asked), 7)
        self.assertEqual(walk.counted, FLAT)

    def test_a_list_in_the_answers_stays(self):
        answers = {("a", 0): ["x"]}
        walked(Form([Some("a", ["x"])]), answers)
        self.assertEqual(answers, {("a", 0): ["x"]})


class Told:
    """A walk told another way: what can be spoken of is kept by name, and lost behind the round."""

    def __init__(self, answers):
        self.answers = answers
        self.asked = []
        self.counted = {}

    def through(self, rows, k, seen):
        for row in rows:
            if row.where is None or self.truth(row.where, seen):
                yield from self.at(row, k, seen)

    def at(self, row, k, seen):
        if isinstance(row, Section):
            yield from self.through(row.rows, k, seen)
        elif isinstance(row, Rounds):
            for times in range(seen.get(row.count, 0)):
                yield from self.through(row.rows, times + 1, dict(seen))
        elif isinstance(row, Check):
            if not self.truth(row.must, seen):
                yield ("barred", (row.name, k))
        else:
            self.asked.append((row.name, k))
            answer = self.answers.get((row.name, k))
            if not self.good(row, answer):
                yield ("open", (row.name, k))
            self.counted[(row.name, k)] = seen[row.name] = answer

    def good(self, row, answer):
        if isinstance(row, One):
            return answer in row.options
        if isinstance(row, Number):
            return answer.__class__ is int and answer in range(row.low, row.high + 1)
        chosen = [tuple(option for at, option in enumerate(row.options) if number >> at & 1) for number in range(16)]
        return answer in chosen

    def truth(self, condition, seen):
        if isinstance(condition, Not):
            return not self.truth(condition.inner, seen)
        if isinstance(condition, (Both, Either)):
            truths = [self.truth(condition.left, seen), self.truth(condition.right, seen)]
            return all(truths) if isinstance(condition, Both) else any(truths)
        if condition.name not in seen:
            return False
        answer = seen[condition.name]
        if isinstance(condition, Is):
            return answer == condition.option
        if isinstance(condition, Has):
            return condition.option in answer
        return answer > condition.number if isinstance(condition, Above) else answer < condition.number


class ManyWalksTest(unittest.TestCase):
    def test_as_told_another_way(self):
        maker, words = Maker(8), {"done": 0, "open": 0, "barred": 0}
        for times in range(600):
            form = maker.form()
            answers = maker.answers(form)
            told = Told(answers)
            word, spot = next(told.through(form.outline(), 0, {}), ("done", None))
            walk = walked(form, answers)
            self.assertEqual((walk.word, walk.spot, walk.asked), (word, spot, told.asked))
            self.assertEqual(walk.counted, told.counted)
            words[word] += 1
        self.assertGreater(min(words.values()), 40)

    def test_no_answer_counts_that_was_not_asked(self):
        maker = Maker(9)
        for times in range(300):
            form = maker.form()
            walk = walked(form, maker.answers(form))
            self.assertEqual(vars(walked(form, walk.counted)), vars(walk))
            left = walk.asked[:-1] if walk.word == "open" else walk.asked
            self.assertEqual(list(walk.counted), left)


if __name__ == "__main__":
    unittest.main()
