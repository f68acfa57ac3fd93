"""How who stands in a box, and who is counted: [14] (the last sheet) and [15]."""

import unittest

from skiphall.boxes import Box
from skiphall.conds import Above, Is
from skiphall.editions import led_over
from skiphall.forms import Check, Number, One, Rounds, Some
from skiphall.walks import walked
from tests.boxing import AGE, PET, PLACE, box_of, edition, made_events, sheet

FLAT = ("counted", {("place", 0): "flat"})
TENT = ("counted", {("place", 0): "tent"})


class StandsTest(unittest.TestCase):
    def assert_stands(self, wanted, *events):
        """ann stands so, in whichever order the events came."""
        for order in (events, tuple(reversed(events))):
            box = box_of(*order)
            told = box.stands("ann")
            self.assertEqual(told, wanted)
            self.assertIsInstance(told, tuple)
            counted = {"ann": wanted[1]} if wanted[0] == "counted" else {}
            self.assertEqual({who: worth for who, worth in box.all_counted().items() if who == "ann"}, counted)

    def test_none(self):
        self.assert_stands(("none",))
        self.assert_stands(("none",), edition(1, PLACE))
        self.assert_stands(("none",), edition(1, PLACE), sheet("bob", 1, 1, place="flat"), ("back", "bob", 1))

    def test_none_of_whom_only_a_taking_back_came(self):
        self.assert_stands(("none",), ("back", "ann", 3), edition(1, PLACE))
        self.assertEqual(box_of(("back", "ann", 3)).people(), ["ann"])

    def test_who_is_any_text(self):
        box = box_of(edition(1, PLACE), sheet("ann", 1, 1, place="flat"))
        for who in ("", "Ann", "no name", "abcdefghi", "?", "ann ", "sheet"):
            self.assertEqual(box.stands(who), ("none",))
        self.assertEqual(box.stands(who="ann"), FLAT)

    def test_counted_with_just_the_answers_asked(self):
        rows = [PLACE, Number("age", 0, 120, where=Is("place", "flat"))]
        answers = {"place": "tent", "age": 5, "pet": "dog", "more": None}
        self.assert_stands(TENT, edition(1, *rows), sheet("ann", 1, 1, **answers))
        answers["place"] = "flat"
        wanted = ("counted", {("place", 0): "flat", ("age", 0): 5})
        self.assert_stands(wanted, edition(1, *rows), sheet("ann", 1, 1, **answers))

    def test_counted_in_rounds(self):
        answers = {("age", 0): 2, ("pet", 1): "cat", ("pet", 2): "dog", ("pet", 3): "cat", ("pet", 0): "cat"}
        rows = [Number("age", 0, 4), Rounds("age", [PET])]
        wanted = ("counted", {("age", 0): 2, ("pet", 1): "cat", ("pet", 2): "dog"})
        self.assert_stands(wanted, edition(1, *rows), ("sheet", "ann", 1, 1, answers))

    def test_open_with_its_spot(self):
        self.assert_stands(("open", ("pet", 0)), edition(1, PLACE, PET, AGE), sheet("ann", 1, 1, place="flat"))
        rows = [Number("age", 0, 4), Rounds("age", [PET])]
        answers = {("age", 0): 2, ("pet", 1): "cat", ("pet", 2): "cow"}
        self.assert_stands(("open", ("pet", 2)), edition(1, *rows), ("sheet", "ann", 1, 1, answers))

    def test_barred_with_its_spot(self):
        check = Check("adult", Above("age", 17))
        self.assert_stands(("barred", ("adult", 0)), edition(1, AGE, check), sheet("ann", 1, 1, age=17))
        self.assert_stands(("counted", {("age", 0): 18}), edition(1, AGE, check), sheet("ann", 1, 1, age=18))
        rows = [Number("many", 0, 4), Rounds("many", [AGE, check])]
        answers = {("many", 0): 2, ("age", 1): 20, ("age", 2): 3}
        self.assert_stands(("barred", ("adult", 2)), edition(1, *rows), ("sheet", "ann", 1, 1, answers))

    def test_ahead_of_the_edition_counted_in(self):
        one = sheet("ann", 1, 2, place="flat")
        self.assert_stands(("ahead", 2), one)
        self.assert_stands(("ahead", 2), one, edition(1, PLACE))
        self.assert_stands(("ahead", 2), one, edition(2, PLACE))
        self.assert_stands(("ahead", 5), sheet("ann", 1, 5), edition(1, PET), edition(2, PLACE), edition(5, PLACE))
        self.assert_stands(FLAT, one, edition(1, PET), edition(2, PLACE))

    def test_a_last_sheet_that_is_ahead_hides_the_one_behind_it(self):
        self.assert_stands(
            ("ahead", 2), edition(1, PLACE), sheet("ann", 1, 1, place="flat"), sheet("ann", 2, 2, place="tent"))

    def test_the_last_sheet_is_the_one_of_the_greatest_number(self):
        self.assert_stands(
            TENT, edition(1, PLACE), edition(2, PLACE),
            sheet("ann", 9, 2, place="flat"), sheet("ann", 10, 1, place="tent"), sheet("bob", 11, 1, place="flat"))
        self.assert_stands(
            ("open", ("place", 0)), edition(1, PLACE), sheet("ann", 1, 1, place="flat"), sheet("ann", 2, 1))

    def test_of_one_number_the_greatest_edition(self):
        editions = [edition(number, PLACE) for number in range(1, 11)]
        self.assert_stands(
            TENT, *editions, sheet("ann", 1, 9, place="flat"), sheet("ann", 1, 10, place="tent"),
            sheet("ann", 1, 2, zoo="z"))

    def test_of_one_edition_the_greatest_text(self):
        self.assert_stands(TENT, edition(1, PLACE), sheet("ann", 1, 1, place="flat"), sheet("ann", 1, 1, place="tent"))
        # The texts are compared, not the answers: "9" is above "10" as a text.
        self.assert_stands(("counted", {("age", 0): 9}), edition(1, AGE), *[
            sheet("ann", 1, 1, age=age) for age in (10, 9, 89, 100)])
        # A figure stands above a quote and a bracket, N above these, and no pair at all above a pair.
        self.assert_stands(("counted", {("age", 0): 1}), edition(1, AGE), *[
            sheet("ann", 1, 1, age=age) for age in ("9", 1, ())])
        self.assert_stands(
            ("open", ("age", 0)), edition(1, AGE), sheet("ann", 1, 1, age=1), sheet("ann", 1, 1, age=None))
        self.assert_stands(
            ("open", ("age", 0)), edition(1, AGE), sheet("ann", 1, 1, age=1), sheet("ann", 1, 1))

    def test_the_texts_are_those_of_sorted_pairs(self):
        self.assert_stands(
            ("counted", {("place", 0): "tent", ("age", 0): 1}), edition(1, PLACE, AGE),
            ("sheet", "ann", 1, 1, {("place", 0): "flat", ("age", 0): 1}),
            ("sheet", "ann", 1, 1, {("age", 0): 1, ("place", 0): "tent"}))


class TakenBackTest(unittest.TestCase):
    def assert_taken(self, wanted, number, *sheets):
        for order in ((*sheets, ("back", "ann", number)), (("back", "ann", number), *sheets)):
            box = box_of(edition(1, PLACE), *order)
            self.assertEqual(box.stands("ann"), wanted)
            self.assertEqual(box.all_counted(), {"ann": wanted[1]} if wanted[0] == "counted" else {})
            self.assertEqual(box.people(), ["ann"])

    def test_a_smaller_number(self):
        self.assert_taken(FLAT, 2, sheet("ann", 3, 1, place="flat"))

    def test_the_same_number(self):
        self.assert_taken(("back",), 3, sheet("ann", 3, 1, place="flat"))

    def test_a_greater_number(self):
        self.assert_taken(("back",), 4, sheet("ann", 3, 1, place="flat"))
        self.assert_taken(("back",), 10, sheet("ann", 9, 1, place="flat"))

    def test_the_sheets_ahead_of_the_last_one_do_not_count_again(self):
        self.assert_taken(("back",), 2, sheet("ann", 1, 1, place="flat"), sheet("ann", 2, 1, place="tent"))
        self.assert_taken(TENT, 1, sheet("ann", 1, 1, place="flat"), sheet("ann", 2, 1, place="tent"))

    def test_a_sheet_behind_the_one_taken_back(self):
        self.assert_taken(TENT, 3, sheet("ann", 3, 1, place="flat"), sheet("ann", 4, 1, place="tent"))

    def test_the_greatest_number_taken_back(self):
        one = sheet("ann", 9, 1, place="flat")
        backs = [("back", "ann", number) for number in (1, 10, 2, 9)]
        for order in ([one, *backs], [*backs, one], [*reversed(backs), one]):
            self.assertEqual(box_of(edition(1, PLACE), *order).stands("ann"), ("back",))

    def test_back_is_told_ahead_of_ahead_and_open(self):
        self.assert_taken(("back",), 1, sheet("ann", 1, 7))
        self.assert_taken(("back",), 1, sheet("ann", 1, 1))

    def test_of_another_one(self):
        box = box_of(edition(1, PLACE), sheet("ann", 1, 1, place="flat"), ("back", "bob", 5))
        self.assertEqual(box.stands("ann"), FLAT)
        self.assertEqual(box.stands("bob"), ("none",))
        self.assertEqual(box.people(), ["ann", "bob"])


class LedOverTest(unittest.TestCase):
    EDITIONS = [
        edition(1, One("spot", ["flat", "hut"]), Number("years", 0, 99), PET),
        edition(2, One("spot", ["flat", "hut"]), AGE, calls=[("years", "age")]),
        edition(3, PLACE, Number("age", 0, 50), calls=[("spot", "place")]),
    ]

    def test_over_several_editions(self):
        one = sheet("ann", 1, 1, spot="flat", years=7, pet="dog")
        wanted = (
            {("spot", 0): "flat", ("years", 0): 7, ("pet", 0): "dog"},
            {("spot", 0): "flat", ("age", 0): 7},
            {("place", 0): "flat", ("age", 0): 7},
        )
        for many in (1, 2, 3):
            box = box_of(one, *self.EDITIONS[:many])
            self.assertEqual(box.stands("ann"), ("counted", wanted[many - 1]))

    def test_over_the_editions_behind_its_own_alone(self):
        box = box_of(*self.EDITIONS, sheet("ann", 1, 3, place="flat", age=7), sheet("bob", 1, 2, spot="flat", age=7))
        box.take(sheet("cid", 1, 3, spot="flat", years=7, age=9))
        wanted = {("place", 0): "flat", ("age", 0): 7}
        self.assertEqual(box.all_counted(), {"ann": wanted, "bob": wanted})
        self.assertEqual(box.stands("cid"), ("open", ("place", 0)))

    def test_what_no_longer_fits_is_open(self):
        box = box_of(*self.EDITIONS, sheet("ann", 1, 1, spot="hut", years=7), sheet("bob", 1, 1, spot="flat", years=70))
        self.assertEqual(box.stands("ann"), ("open", ("place", 0)))
        self.assertEqual(box.stands("bob"), ("open", ("age", 0)))

    def test_editions_behind_a_gap_do_not_lead(self):
        box = box_of(self.EDITIONS[0], self.EDITIONS[2], sheet("ann", 1, 1, spot="flat", years=7, pet="cat"))
        self.assertEqual(box.stands("ann")[0], "counted")
        self.assertIn(("spot", 0), box.stands("ann")[1])

    def test_the_sheet_need_not_be_done_by_its_own_edition(self):
        box = box_of(*self.EDITIONS, sheet("ann", 1, 1, spot="flat", years=7))
        self.assertEqual(box.stands("ann")[0], "counted")


class PeopleTest(unittest.TestCase):
    def test_people_are_sorted(self):
        box = box_of(*[sheet(who, 1, 1) for who in ("dot", "ann", "b10", "b9", "cid", "ann")], ("back", "bob", 1))
        self.assertEqual(box.people(), ["ann", "b10", "b9", "bob", "cid", "dot"])
        self.assertEqual(Box().people(), [])

    def test_all_counted_has_those_alone_who_stand_so(self):
        box = box_of(
            edition(1, PLACE, Some("pets", ["cat", "dog"])),
            sheet("eve", 1, 1, place="tent", pets=("cat", "dog")),
            sheet("ann", 1, 1, place="flat", pets=()),
            sheet("bob", 1, 1, place="flat"),
            sheet("cid", 1, 2, place="flat", pets=()),
            sheet("dot", 1, 1, place="flat", pets=()), ("back", "dot", 1),
            ("back", "fay", 1),
        )
        told = box.all_counted()
        self.assertEqual(told, {
            "ann": {("place", 0): "flat", ("pets", 0): ()},
            "eve": {("place", 0): "tent", ("pets", 0): ("cat", "dog")},
        })
        self.assertEqual(Box().all_counted(), {})


class AsTheDocumentCountsTest(unittest.TestCase):
    """SO IT COUNTS, said once more in the tests' own words, over events that are made."""

    def counted(self, events, who):
        sheets = [event for event in events if event[0] == "sheet" and event[1] == who]
        backs = [event[2] for event in events if event[0] == "back" and event[1] == who]
        editions = {event[1].number: event[1] for event in events if event[0] == "edition"}
        now = max([0] + [n for n in editions if all(k in editions for k in range(1, n + 1))])
        if not sheets:
            return None
        last = max(sheets, key=lambda event: (event[2], event[3], repr(sorted(event[4].items()))))
        if any(number >= last[2] for number in backs) or last[3] > now:
            return None
        walk = walked(editions[now].form, led_over(last[4], [editions[n] for n in range(last[3] + 1, now + 1)]))
        return walk.counted if walk.word == "done" else None

    def test_over_made_events(self):
        many = 0
        for seed in range(300):
            events = made_events(seed, 20)
            box = box_of(*events)
            wanted = {who: self.counted(events, who) for who in box.people()}
            wanted = {who: answers for who, answers in wanted.items() if answers is not None}
            self.assertEqual(box.all_counted(), wanted)
            self.assertEqual(list(box.all_counted()), sorted(wanted))
            for who in box.people():
                stand = box.stands(who)
                self.assertEqual(stand[0] == "counted", who in wanted)
            many += len(wanted)
        self.assertGreater(many, 50)


if __name__ == "__main__":
    unittest.main()
