"""Fillings: [10] and the interface's lines for skiphall/fills.py."""

import random
import unittest

from skiphall.conds import Above, Is
from skiphall.errors import NoBack, NoFit, NotAsked
from skiphall.fills import Filling
from skiphall.forms import Check, Form, Number, One, Rounds, Section, Some
from skiphall.walks import walked
from tests.making import NO_ANSWERS, Maker
from tests.refusing import RefusalCase
from tests.samples import household

A, B, C, D, N = ("a", 0), ("b", 0), ("c", 0), ("d", 0), ("n", 0)


def branched():
    """A form whose first answer tells whether the next is asked."""
    return Form([
        One("a", ["yes", "no"]),
        Number("b", 0, 9, where=Is("a", "yes")),
        Some("c", ["x", "y"]),
        Check("e", Above("b", 2), where=Is("a", "yes")),
        Number("d", 0, 9),
    ])


def filled(form, *pairs):
    """A filling in which the pairs of a spot and an answer were put, in order."""
    filling = Filling(form)
    for spot, answer in pairs:
        filling.put(spot, answer)
    return filling


class FillCase(RefusalCase):
    def assert_keeps(self, filling, form, kept):
        """The filling keeps just that, and walks as the form does by it."""
        self.assertEqual(filling.kept(), kept)
        self.assertEqual(vars(filling.walk()), vars(walked(form, kept)))


class PutTest(FillCase):
    def test_at_first_nothing_is_kept(self):
        filling = Filling(branched())
        self.assertEqual(filling.kept(), {})
        self.assertEqual(vars(filling.walk()), {"word": "open", "spot": A, "asked": [A], "counted": {}})

    def test_spot_by_spot(self):
        filling = Filling(branched())
        kept = {}
        for spot, answer in ((A, "yes"), (B, 3), (C, ("x",)), (D, 0)):
            self.assertEqual((filling.walk().word, filling.walk().spot), ("open", spot))
            self.assertIsNone(filling.put(spot, answer))
            kept[spot] = answer
            self.assert_keeps(filling, branched(), kept)
        self.assertEqual(filling.walk().word, "done")

    def test_over_what_was_put(self):
        filling = filled(branched(), (A, "yes"), (B, 3), (B, 4), (A, "yes"))
        self.assert_keeps(filling, branched(), {A: "yes", B: 4})

    def test_ahead_of_a_bar(self):
        filling = filled(branched(), (A, "yes"), (B, 2), (C, ()))
        self.assertEqual((filling.walk().word, filling.walk().spot), ("barred", ("e", 0)))
        filling.put(B, 3)
        self.assertEqual((filling.walk().word, filling.walk().spot), ("open", D))

    def test_in_rounds(self):
        form = Form([Number("n", 0, 4), Rounds("n", [Number("a", 0, 9)]), Number("b", 0, 9)])
        filling = filled(form, (N, 2), (("a", 1), 5))
        self.assert_refused(NotAsked, {"spot": ("a", 3)}, filling.put, ("a", 3), 5)
        self.assert_refused(NotAsked, {"spot": A}, filling.put, A, 5)
        filling.put(("a", 2), 6)
        filling.put(B, 7)
        self.assert_keeps(filling, form, {N: 2, ("a", 1): 5, ("a", 2): 6, B: 7})

    def test_a_count_changed_and_changed_again(self):
        form = Form([Number("n", 0, 4), Rounds("n", [Number("a", 0, 9)])])
        filling = filled(form, (N, 2), (("a", 1), 5), (("a", 2), 6), (N, 1))
        self.assert_keeps(filling, form, {N: 1, ("a", 1): 5, ("a", 2): 6})
        self.assertEqual(filling.walk().counted, {N: 1, ("a", 1): 5})
        self.assert_refused(NotAsked, {"spot": ("a", 2)}, filling.put, ("a", 2), 7)
        filling.put(N, 3)
        self.assertEqual(filling.walk().spot, ("a", 3))
        self.assertEqual(filling.walk().counted, {N: 3, ("a", 1): 5, ("a", 2): 6})


class KeptTest(FillCase):
    def test_kept_while_it_is_not_asked_and_counted_again(self):
        filling = filled(branched(), (A, "yes"), (B, 3), (C, ("x",)), (D, 0), (A, "no"))
        self.assert_keeps(filling, branched(), {A: "no", B: 3, C: ("x",), D: 0})
        self.assertEqual(filling.walk().counted, {A: "no", C: ("x",), D: 0})
        filling.put(A, "yes")
        self.assert_keeps(filling, branched(), {A: "yes", B: 3, C: ("x",), D: 0})
        self.assertEqual(filling.walk().counted, {A: "yes", B: 3, C: ("x",), D: 0})

    def test_kept_behind_an_open_spot(self):
        filling = filled(branched(), (A, "no"), (C, ("x",)), (D, 0), (A, "yes"))
        self.assertEqual(vars(filling.walk()), {"word": "open", "spot": B, "asked": [A, B], "counted": {A: "yes"}})
        self.assert_refused(NotAsked, {"spot": D}, filling.put, D, 1)
        filling.put(B, 3)
        self.assertEqual(filling.walk().word, "done")
        self.assertEqual(filling.walk().counted, {A: "yes", B: 3, C: ("x",), D: 0})

    def test_by_several_roads(self):
        form = Form([Number("a", 0, 9), Number("b", 0, 9), Number("c", 0, 9)])
        one = filled(form, (A, 1), (B, 2), (C, 3))
        two = filled(form, (A, 9), (B, 2), (C, 8), (A, 1), (C, 3))
        two.clear(B)
        two.clear(A)
        two.put(A, 1)
        two.put(B, 2)
        self.assertEqual(one.kept(), two.kept())
        self.assertEqual(repr(one.kept()), repr(two.kept()))
        self.assertEqual(vars(one.walk()), vars(two.walk()))


class RefusedTest(FillCase):
    def test_a_spot_that_is_not_asked(self):
        filling = filled(branched(), (A, "no"))
        for spot in (B, D, ("e", 0), ("a", 1), ("c", 1), ("nobody", 0), ("No Name", -3), ("", 0)):
            self.assert_refused(NotAsked, {"spot": spot}, filling.put, spot, 1)
            self.assert_refused(NotAsked, {"spot": spot}, filling.put, spot=spot, answer="no")
        self.assert_keeps(filling, branched(), {A: "no"})

    def test_what_is_no_answer(self):
        filling = filled(branched(), (A, "yes"), (B, 3), (C, ("x",)))
        for spot, answers in (
            (A, ["", "maybe", None, True, 0, ("yes",), ["yes"]]),
            (B, [True, False, None, -1, 10, "3", (), (3,)]),
            (C, [None, True, "x", ["x"], [], ("y", "x"), ("x", "x"), ("z",)]),
            (D, [True, False, None, -1, 10, "3", (), (3,)]),
        ):
            for answer in answers:
                with self.subTest(spot, answer=answer):
                    self.assert_refused(NoFit, {"name": spot[0]}, filling.put, spot, answer)
        self.assert_keeps(filling, branched(), {A: "yes", B: 3, C: ("x",)})

    def test_not_asked_ahead_of_no_answer(self):
        self.assert_refused(NotAsked, {"spot": D}, Filling(branched()).put, D, "no number")

    def test_what_refuses_is_not_taken_back(self):
        filling = filled(branched(), (A, "yes"))
        self.assertRaises(NotAsked, filling.put, D, 1)
        self.assertRaises(NoFit, filling.put, B, 10)
        self.assertRaises(NotAsked, filling.clear, B)
        filling.back()
        self.assert_keeps(filling, branched(), {})
        self.assert_refused(NoBack, {}, filling.back)


class ClearTest(FillCase):
    def test_what_is_asked(self):
        filling = filled(branched(), (A, "yes"), (B, 3), (C, ("x",)))
        self.assertIsNone(filling.clear(B))
        self.assert_keeps(filling, branched(), {A: "yes", C: ("x",)})
        self.assertEqual(filling.walk().spot, B)

    def test_what_is_not_asked_by_then(self):
        filling = filled(branched(), (A, "yes"), (B, 3), (A, "no"))
        filling.clear(spot=B)
        self.assert_keeps(filling, branched(), {A: "no"})
        filling.put(A, "yes")
        self.assertEqual(filling.walk().spot, B)

    def test_what_is_not_kept(self):
        filling = filled(branched(), (A, "yes"))
        for spot in (B, C, ("e", 0), ("a", 1), ("nobody", 0), ("", -1)):
            self.assert_refused(NotAsked, {"spot": spot}, filling.clear, spot)
        filling.clear(A)
        self.assert_refused(NotAsked, {"spot": A}, filling.clear, A)
        self.assert_keeps(filling, branched(), {})


class BackTest(FillCase):
    def test_of_nothing(self):
        filling = Filling(branched())
        self.assert_refused(NoBack, {}, filling.back)
        self.assert_keeps(filling, branched(), {})

    def test_of_a_put(self):
        filling = filled(branched(), (A, "yes"), (B, 3))
        self.assertIsNone(filling.back())
        self.assert_keeps(filling, branched(), {A: "yes"})
        filling.back()
        self.assert_keeps(filling, branched(), {})
        self.assert_refused(NoBack, {}, filling.back)

    def test_of_a_put_over_what_was_kept(self):
        filling = filled(branched(), (A, "yes"), (B, 0), (B, 4))
        filling.back()
        self.assert_keeps(filling, branched(), {A: "yes", B: 0})

    def test_of_a_put_of_what_was_kept_already(self):
        filling = filled(branched(), (A, "yes"), (B, 3), (B, 3), (B, 3))
        filling.back()
        filling.back()
        self.assert_keeps(filling, branched(), {A: "yes", B: 3})
        filling.back()
        self.assert_keeps(filling, branched(), {A: "yes"})

    def test_of_a_put_over_an_empty_answer(self):
        form = Form([Some("a", ["x"]), Number("b", 0, 1)])
        filling = filled(form, (A, ()), (B, 0), (A, ("x",)), (B, 1))
        filling.back()
        filling.back()
        self.assert_keeps(filling, form, {A: (), B: 0})

    def test_of_a_clear(self):
        filling = filled(branched(), (A, "yes"), (B, 3))
        filling.clear(B)
        filling.clear(A)
        filling.back()
        self.assert_keeps(filling, branched(), {A: "yes"})
        filling.back()
        self.assert_keeps(filling, branched(), {A: "yes", B: 3})
        filling.back()
        self.assert_keeps(filling, branched(), {A: "yes"})

    def test_of_a_clear_of_what_is_not_asked(self):
        filling = filled(branched(), (A, "yes"), (B, 3), (A, "no"))
        filling.clear(B)
        filling.back()
        self.assert_keeps(filling, branched(), {A: "no", B: 3})
        filling.back()
        self.assert_keeps(filling, branched(), {A: "yes", B: 3})

    def test_a_back_is_not_taken_back(self):
        filling = filled(branched(), (A, "yes"), (B, 3))
        filling.back()
        filling.put(B, 4)
        filling.back()
        self.assert_keeps(filling, branched(), {A: "yes"})

    def test_many_deeds_all_the_way_back(self):
        maker, luck = Maker(10), random.Random(10)
        for times in range(40):
            form = maker.form()
            filling, states = Filling(form), []
            for deed in range(30):
                states.append(filling.kept())
                kept = sorted(filling.kept())
                if kept and luck.random() < 0.2:
                    filling.clear(luck.choice(kept))
                else:
                    spot = luck.choice(filling.walk().asked)
                    filling.put(spot, maker.answer(form.question(spot[0])))
            for state in reversed(states):
                filling.back()
                self.assertEqual(filling.kept(), state)
                self.assertEqual(vars(filling.walk()), vars(walked(form, state)))
            self.assert_refused(NoBack, {}, filling.back)


class ToldTest(FillCase):
    def test_by_the_names_of_the_arguments(self):
        filling = Filling(form=Form(household()))
        filling.put(spot=("home", 0), answer="none")
        filling.put(answer=-1, spot=("left", 0))
        filling.clear(spot=("left", 0))
        self.assertEqual(filling.kept(), {("home", 0): "none"})

    def test_each_dict_and_list_told_is_a_new_one(self):
        filling = filled(branched(), (A, "yes"), (B, 3))
        filling.kept().clear()
        filling.walk().asked.clear()
        filling.walk().counted.clear()
        kept = filling.kept()
        kept[C] = ("x",)
        self.assert_keeps(filling, branched(), {A: "yes", B: 3})

    def test_what_was_told_stays(self):
        filling = filled(branched(), (A, "yes"))
        kept, walk = filling.kept(), filling.walk()
        filling.put(B, 3)
        filling.clear(A)
        self.assertEqual(kept, {A: "yes"})
        self.assertEqual(vars(walk), {"word": "open", "spot": B, "asked": [A, B], "counted": {A: "yes"}})

    def test_two_fillings_of_one_form(self):
        form = branched()
        one, two = filled(form, (A, "yes")), filled(form, (A, "no"))
        self.assert_keeps(one, branched(), {A: "yes"})
        self.assert_keeps(two, branched(), {A: "no"})

    def test_rows_changed_later_change_nothing(self):
        rows = [Section([Number("a", 0, 1)])]
        form = Form(rows)
        filling = Filling(form)
        rows.clear()
        filling.put(A, 1)
        self.assertEqual(filling.walk().word, "done")
        self.assertEqual(form, Form([Section([Number("a", 0, 1)])]))

    def test_no_answer_at_all_is_taken_that_is_none(self):
        filling = Filling(Form([Number("a", 0, 1)]))
        for answer in NO_ANSWERS:
            self.assert_refused(NoFit, {"name": "a"}, filling.put, A, answer)


if __name__ == "__main__":
    unittest.main()
