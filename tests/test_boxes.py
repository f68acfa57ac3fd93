"""Boxes and their events: [13], [14] and the interface's line for skiphall/boxes.py."""

import random
import unittest

from skiphall.boxes import Box
from skiphall.conds import Is
from skiphall.editions import Edition
from skiphall.errors import BadCount, NoEdition, NoEvent, NoName, Unlike
from skiphall.forms import Form, Number, One
from tests.boxing import AGE, PET, PLACE, all_told, box_of, edition, made_events, sheet
from tests.refusing import RefusalCase


class NoEventTest(RefusalCase):
    def assert_no_event(self, event, word):
        box = box_of(edition(1, PLACE), sheet("ann", 1, 1, place="flat"))
        before = all_told(box)
        self.assert_refused(NoEvent, {"word": word}, box.take, event)
        self.assert_refused(NoEvent, {"word": word}, box.take, event=event)
        self.assertEqual(all_told(box), before)

    def test_an_event_of_no_parts(self):
        self.assert_no_event((), "")

    def test_a_word_that_is_none(self):
        for word in ("", "sheets", "Sheet", " sheet", "taken", "merge"):
            self.assert_no_event((word,), word)
            self.assert_no_event((word, "ann", 1), word)
            self.assert_no_event((word, "ann", 1, 1, {}), word)

    def test_a_part_too_few_or_too_many(self):
        second = Edition(2, Form([PET]))
        for event in (
            ("edition",),
            ("edition", second, second),
            ("sheet",),
            ("sheet", "ann", 1, 1),
            ("sheet", "ann", 1, 1, {}, {}),
            ("back",),
            ("back", "ann"),
            ("back", "ann", 1, 1),
        ):
            self.assert_no_event(event, event[0])

    def test_ahead_of_what_the_parts_are(self):
        self.assert_no_event(("sheet", "No Name", 0, 0), "sheet")
        self.assert_no_event(("back", "No Name", 0, 0), "back")


class TakeRefusedTest(RefusalCase):
    def assert_take(self, kind, fields, event):
        box = box_of(edition(1, PLACE), sheet("ann", 1, 1, place="flat"))
        before = all_told(box)
        self.assert_refused(kind, fields, box.take, event)
        self.assertEqual(all_told(box), before)
        self.assert_refused(kind, fields, Box().take, event)

    def test_a_who_that_is_no_name(self):
        for who in ("", "Ann", "1a", "a b", "abcdefghi", "a_b"):
            self.assert_take(NoName, {"name": who}, ("sheet", who, 1, 1, {}))
            self.assert_take(NoName, {"name": who}, ("back", who, 1))

    def test_a_who_that_is_no_name_ahead_of_numbers(self):
        self.assert_take(NoName, {"name": "Ann"}, ("sheet", "Ann", 0, 0, {}))
        self.assert_take(NoName, {"name": "Ann"}, ("back", "Ann", 0))

    def test_a_number_below_one(self):
        for number in (0, -1, -(10 ** 20)):
            fields = {"what": "number", "count": number}
            self.assert_take(BadCount, fields, ("sheet", "ann", number, 1, {}))
            self.assert_take(BadCount, fields, ("sheet", "ann", number, 0, {}))
            self.assert_take(BadCount, fields, ("back", "ann", number))

    def test_an_edition_below_one(self):
        for number in (0, -1, -(10 ** 20)):
            self.assert_take(BadCount, {"what": "edition", "count": number}, ("sheet", "ann", 1, number, {}))

    def test_great_numbers_are_fine(self):
        box = box_of(("sheet", "ann", 10 ** 30, 10 ** 30, {}), ("back", "bob", 10 ** 30))
        self.assertEqual(box.stands("ann"), ("ahead", 10 ** 30))
        self.assertEqual(box.people(), ["ann", "bob"])


class UnlikeTest(RefusalCase):
    def test_an_edition_that_came_anew_changes_nothing(self):
        box = box_of(edition(1, PLACE), edition(2, PET, calls=[("pets", "pet")]))
        before = all_told(box)
        self.assertIsNone(box.take(edition(2, PET, calls=[("pets", "pet")])))
        self.assertIsNone(box.take(edition(1, PLACE)))
        self.assertEqual(all_told(box), before)

    def test_another_edition_of_the_same_number(self):
        box = box_of(edition(2, PET, calls=[("pets", "pet")]), edition(1, PLACE))
        before = all_told(box)
        for event in (
            edition(2, PET),
            edition(2, PET, calls=[("pest", "pet")]),
            edition(2, One("pet", ["cat", "cow"]), calls=[("pets", "pet")]),
            edition(2, PET, PLACE, calls=[("pets", "pet")]),
        ):
            self.assert_refused(Unlike, {"number": 2}, box.take, event)
        self.assert_refused(Unlike, {"number": 1}, box.take, edition(1, PET))
        self.assertEqual(all_told(box), before)
        box.take(edition(3, PET))
        self.assertEqual(box.edition(), 3)

    def test_merge_refuses_the_first_by_number(self):
        box = box_of(edition(4, PET), edition(3, PLACE), edition(2, PET), edition(1, PLACE))
        other = box_of(
            edition(5, PET),
            edition(4, PLACE),
            sheet("ann", 1, 1, place="flat"),
            edition(3, PET),
            edition(1, PLACE),
            ("back", "bob", 1),
        )
        before, before_other = all_told(box), all_told(other)
        self.assert_refused(Unlike, {"number": 3}, box.merge, other)
        self.assertEqual(all_told(box), before)
        self.assertEqual(all_told(other), before_other)
        self.assert_refused(Unlike, {"number": 3}, other.merge, other=box)
        self.assertEqual(all_told(other), before_other)

    def test_merge_looks_at_all_numbers_by_their_worth(self):
        box = box_of(edition(10, PET), edition(9, PET))
        other = box_of(edition(10, PLACE), edition(9, PLACE))
        self.assert_refused(Unlike, {"number": 9}, box.merge, other)

    def test_a_refused_edition_did_not_come(self):
        box = box_of(edition(1, PLACE))
        self.assertRaises(Unlike, box.take, edition(1, PET))
        other = Box()
        other.merge(box)
        other.take(edition(1, PLACE))
        self.assertEqual(all_told(other), all_told(box))


class MergeTest(unittest.TestCase):
    def test_all_events_of_the_other(self):
        first = [edition(1, PLACE), sheet("ann", 1, 1, place="flat"), ("back", "bob", 1)]
        second = [edition(2, PET), sheet("bob", 2, 2, pet="dog"), sheet("ann", 1, 1, place="flat"), ("back", "dot", 3)]
        box, other = box_of(*first), box_of(*second)
        before = all_told(other)
        self.assertIsNone(box.merge(other))
        self.assertEqual(all_told(box), all_told(box_of(*first, *second)))
        self.assertEqual(all_told(other), before)
        self.assertEqual(box.events(), 6)

    def test_a_box_merged_into_itself(self):
        box = box_of(edition(1, PLACE), sheet("ann", 1, 1, place="flat"), ("back", "bob", 1))
        before = all_told(box)
        box.merge(box)
        self.assertEqual(all_told(box), before)
        Box().merge(box)
        box.merge(Box())
        self.assertEqual(all_told(box), before)

    def test_boxes_stay_two(self):
        box, other = Box(), box_of(edition(1, PLACE), sheet("ann", 1, 1, place="flat"))
        box.merge(other)
        box.take(sheet("bob", 1, 1, place="tent"))
        other.take(("back", "ann", 1))
        self.assertEqual(box.stands("ann"), ("counted", {("place", 0): "flat"}))
        self.assertEqual(other.people(), ["ann"])

    def test_a_box_that_got_its_events_by_merge_hands_them_on(self):
        first, second, third = box_of(edition(1, PLACE), sheet("ann", 1, 1, place="flat")), Box(), Box()
        second.merge(first)
        third.merge(second)
        self.assertEqual(all_told(third), all_told(first))


class AlikeTest(unittest.TestCase):
    def assert_alike(self, first, second):
        box = box_of(("sheet", "ann", 1, 1, first), ("sheet", "ann", 1, 1, second))
        self.assertEqual(box.events(), 1)
        self.assertEqual(box.clashes(), [])

    def assert_unlike(self, first, second):
        for answers in ((first, second), (second, first)):
            box = box_of(("sheet", "ann", 1, 1, answers[0]), ("sheet", "ann", 1, 1, answers[1]))
            self.assertEqual(box.events(), 2)
            self.assertEqual(box.clashes(), [("ann", 1)])

    def test_answers_in_another_order_of_their_spots(self):
        self.assert_alike({("b", 1): 1, ("a", 2): "x", ("a", 1): ()}, {("a", 1): (), ("a", 2): "x", ("b", 1): 1})
        self.assert_alike({}, {})

    def test_answers_that_are_unlike(self):
        for first, second in ((1, "1"), ((), None), (1, True), (0, False), ("", ()), (("a",), "a"), ("None", None)):
            with self.subTest(first=first, second=second):
                self.assert_unlike({("a", 0): first}, {("a", 0): second})

    def test_spots_that_are_unlike(self):
        self.assert_unlike({("a", 0): 1}, {("a", 1): 1})
        self.assert_unlike({("a", 0): 1}, {("b", 0): 1})
        self.assert_unlike({("a", 0): 1}, {})
        self.assert_unlike({("a", 0): 1}, {("a", 0): 1, ("a", 1): 1})

    def test_who_number_and_edition_are_unlike(self):
        box = box_of(*[
            ("sheet", who, number, by, {}) for who in ("ann", "bob") for number in (1, 2) for by in (1, 2)
        ])
        self.assertEqual(box.events(), 8)
        self.assertEqual(box.clashes(), [("ann", 1), ("ann", 2), ("bob", 1), ("bob", 2)])

    def test_what_comes_twice(self):
        events = [edition(1, PLACE), sheet("ann", 1, 1, place="flat"), ("back", "bob", 2), ("back", "bob", 1)]
        box = box_of(*events)
        before = all_told(box)
        for event in reversed(events):
            box.take(event)
        self.assertEqual(box.events(), 4)
        self.assertEqual(all_told(box), before)


class EditionsOfABoxTest(RefusalCase):
    def test_none_counted_in(self):
        for box in (Box(), box_of(edition(2, PET)), box_of(edition(3, PET), edition(2, PLACE)), box_of(
                sheet("ann", 1, 1, place="flat"))):
            self.assertEqual(box.edition(), 0)
            self.assert_refused(NoEdition, {}, box.form_now)

    def test_up_to_a_gap(self):
        box = box_of(edition(4, PET), edition(1, PLACE))
        self.assertEqual(box.edition(), 1)
        self.assertEqual(box.form_now(), Form([PLACE]))
        box.take(edition(3, AGE))
        self.assertEqual(box.edition(), 1)
        box.take(edition(2, PET, AGE))
        self.assertEqual(box.edition(), 4)
        self.assertEqual(box.form_now(), Form([PET]))
        box.take(edition(6, AGE))
        self.assertEqual(box.edition(), 4)

    def test_events_counts_the_unlike_ones(self):
        box = Box()
        self.assertEqual(box.events(), 0)
        for many, event in enumerate((edition(1, PET), sheet("ann", 1, 1), ("back", "ann", 1), ("back", "ann", 2)), 1):
            box.take(event)
            box.take(event)
            self.assertEqual(box.events(), many)

    def test_clashes_are_sorted_pairs(self):
        box = box_of(
            sheet("bob", 2, 1, place="flat"), sheet("bob", 2, 1, place="tent"), sheet("bob", 2, 2, place="tent"),
            sheet("ann", 10, 1), sheet("ann", 10, 2), sheet("ann", 9, 1), sheet("ann", 9, 2),
            sheet("cid", 1, 1), sheet("cid", 2, 1), sheet("dot", 1, 1), ("back", "dot", 1),
        )
        self.assertEqual(box.clashes(), [("ann", 9), ("ann", 10), ("bob", 2)])

    def test_clashes_of_what_was_taken_back(self):
        box = box_of(sheet("ann", 1, 1, place="flat"), sheet("ann", 1, 1), ("back", "ann", 3))
        self.assertEqual(box.clashes(), [("ann", 1)])


class HandedInTest(unittest.TestCase):
    def test_what_is_handed_in_stays(self):
        answers = {("place", 0): "flat", ("age", 0): None}
        event = ("sheet", "ann", 1, 1, answers)
        box = box_of(edition(1, PLACE), event)
        box.take(event=event)
        self.assertEqual(answers, {("place", 0): "flat", ("age", 0): None})

    def test_what_is_changed_later_changes_nothing(self):
        rows, calls, answers = [One("a", ["x", "y"]), PLACE], [("spot", "place")], {("spot", 0): "flat", ("a", 0): "x"}
        box = box_of(
            edition(1, One("spot", ["flat"])),
            ("edition", Edition(2, Form(rows), calls=calls)),
            ("sheet", "ann", 1, 1, answers),
        )
        before = all_told(box)
        rows.pop()
        calls.clear()
        answers[("a", 0)] = "y"
        answers.pop(("spot", 0))
        self.assertEqual(all_told(box), before)
        self.assertEqual(box.stands("ann"), ("counted", {("a", 0): "x", ("place", 0): "flat"}))
        box.take(("sheet", "ann", 1, 1, {("spot", 0): "flat", ("a", 0): "x"}))
        self.assertEqual(box.events(), 3)

    def test_what_is_told_is_the_askers_own(self):
        box = box_of(
            edition(1, PLACE), sheet("ann", 1, 1, place="flat"), sheet("bob", 1, 1), sheet("bob", 1, 1, place="flat"))
        before = all_told(box)
        box.clashes().clear()
        box.people().append("dot")
        box.stands("ann")[1].clear()
        box.all_counted()["ann"].clear()
        box.all_counted().clear()
        self.assertEqual(all_told(box), before)
        self.assertIsNot(box.people(), box.people())
        self.assertIsNot(box.stands("ann")[1], box.all_counted()["ann"])


class AnyOrderTest(unittest.TestCase):
    def test_taken_in_any_order_and_twice(self):
        chance = random.Random(13)
        for seed in range(60):
            events = made_events(seed, 25)
            wanted = all_told(box_of(*events))
            for times in range(4):
                again = events + chance.sample(events, len(events) // 2)
                chance.shuffle(again)
                self.assertEqual(all_told(box_of(*again)), wanted)

    def test_merged_in_any_order_and_twice(self):
        chance = random.Random(14)
        for seed in range(60):
            events = made_events(seed, 25)
            wanted = all_told(box_of(*events))
            boxes = [Box(), Box(), Box()]
            for event in events:
                for box in chance.sample(boxes, chance.randint(1, 3)):
                    box.take(event)
            for times in range(3):
                chance.choice(boxes).merge(chance.choice(boxes))
            chance.shuffle(boxes)
            for box in boxes:
                boxes[0].merge(box)
            self.assertEqual(all_told(boxes[0]), wanted)

    def test_unlike_editions_are_refused_wherever_they_come(self):
        one, other = edition(1, PLACE), edition(1, PLACE, Number("age", 0, 9, where=Is("place", "flat")))
        for first, second in ((one, other), (other, one)):
            box = box_of(first)
            self.assertRaises(Unlike, box.take, second)
            self.assertEqual(box.form_now(), first[1].form)


if __name__ == "__main__":
    unittest.main()
