"""Grids and the senders of their cells: [16] and the interface's line for skiphall/grids.py."""

import unittest

from skiphall.boxes import Box
from skiphall.conds import Above, Is
from skiphall.errors import NoCell, NoEdition, NoFit, NoQuestion, Twice
from skiphall.forms import Check, Number, One, Rounds, Section, Some
from skiphall.grids import grid_of, senders
from tests.boxing import PET, PLACE, all_told, box_of, edition, polled_events, sheet
from tests.refusing import RefusalCase

KINDS = (
    Number("count", 0, 4),
    One("four", ["a", "b", "c", "d"]),
    One("five", ["a", "b", "c", "d", "e"]),
    Section([One("deep", ["a", "b"])]),
    Rounds("count", [One("again", ["a", "b"])]),
    Some("some", ["a", "b"]),
    Check("check", Above("count", -1)),
)


def polled():
    """A box of eight who sent in, of whom six are counted and five have answered both questions."""
    return box_of(
        edition(1, PLACE, One("pet", ["cat", "dog"], where=Is("place", "flat"))),
        edition(2, PLACE, One("pet", ["cat", "dog", "cow"], where=Is("place", "flat")), One("one", ["only"])),
        sheet("fay", 1, 2, place="flat", pet="dog", one="only"),
        sheet("ann", 1, 2, place="flat", pet="cat", one="only"),
        sheet("bob", 1, 2, place="flat", pet="dog", one="only"),
        sheet("cid", 1, 2, place="tent", pet="dog", one="only"),
        sheet("dot", 1, 2, place="flat", pet="cat"),
        sheet("eve", 1, 2, place="flat", pet="cow", one="only"), ("back", "eve", 1),
        sheet("gus", 1, 2, place="flat", pet="dog", one="only"),
        sheet("hal", 1, 3, place="flat", pet="dog", one="only"),
        sheet("ida", 1, 2, place="flat", pet="cow", one="only"),
    )


class GridTest(RefusalCase):
    def test_cells_of_options_and_sums(self):
        self.assertEqual(grid_of(polled(), "place", "pet"), [
            [0, 0, 0, 0],
            [1, 3, 1, 5],
            [0, 0, 0, 0],
            [1, 3, 1, 5],
        ])

    def test_the_other_way_round(self):
        self.assertEqual(grid_of(polled(), "pet", "place"), [
            [0, 1, 0, 1],
            [0, 3, 0, 3],
            [0, 1, 0, 1],
            [0, 5, 0, 5],
        ])

    def test_who_is_counted_without_one_of_the_answers_stands_in_no_cell(self):
        self.assertEqual(polled().stands("cid")[0], "counted")
        self.assertEqual(grid_of(polled(), "place", "one"), [[0, 0], [5, 5], [1, 1], [6, 6]])
        self.assertEqual(grid_of(polled(), "pet", "one"), [[1, 1], [3, 3], [1, 1], [5, 5]])

    def test_nobody_counted(self):
        box = box_of(edition(1, PLACE, PET))
        self.assertEqual(grid_of(box, "place", "pet"), [[0, 0, 0]] * 4)
        self.assertEqual(grid_of(box, "pet", "place"), [[0, 0, 0, 0]] * 3)

    def test_one_option_each(self):
        box = box_of(edition(1, One("a", ["x"]), One("b", ["x"])), sheet("ann", 1, 1, a="x", b="x"))
        self.assertEqual(grid_of(box, "a", "b"), [[1, 1], [1, 1]])

    def test_four_options_each(self):
        box = box_of(edition(1, One("a", ["p", "q", "r", "s"]), One("b", ["s", "r", "q", "p"])))
        for at, (first, second) in enumerate(("ps", "pr", "pr", "qs", "rp", "sq", "sp", "sp", "sp")):
            box.take(sheet("w" + str(at), 1, 1, a=first, b=second))
        self.assertEqual(grid_of(box, "a", "b"), [
            [1, 2, 0, 0, 3],
            [1, 0, 0, 0, 1],
            [0, 0, 0, 1, 1],
            [0, 0, 1, 3, 4],
            [2, 2, 1, 4, 9],
        ])

    def test_by_the_names_of_the_arguments(self):
        box = polled()
        self.assertEqual(grid_of(box=box, first="place", second="one"), grid_of(box, "place", "one"))

    def test_the_box_stays_and_the_grid_is_the_askers_own(self):
        box = polled()
        before = all_told(box)
        grid = grid_of(box, "place", "pet")
        grid[0].clear()
        grid.pop()
        self.assertEqual(all_told(box), before)
        self.assertEqual(grid_of(box, "place", "pet")[0], [0, 0, 0, 0])
        empty = grid_of(box_of(edition(1, PLACE, PET)), "place", "pet")
        empty[0][0] = 5
        self.assertEqual(empty[1], [0, 0, 0])

    def test_over_made_events(self):
        for seed in range(60):
            box = box_of(*polled_events(seed, 30))
            self.assert_grid(box, "first", "second")
            self.assert_grid(box, "second", "first")

    def assert_grid(self, box, first, second):
        """The grid has in each cell as many as its senders are, and these are counted so."""
        grid = grid_of(box, first, second)
        counted = box.all_counted().items()
        rows, columns = (list(box.form_now().question(name).options) for name in (first, second))
        self.assertEqual([len(row) for row in grid], [len(columns) + 1] * (len(rows) + 1))
        self.assertGreater(grid[-1][-1], 5)
        for row, firsts in enumerate([[option] for option in rows] + [rows]):
            for column, seconds in enumerate([[option] for option in columns] + [columns]):
                wanted = [
                    who for who, answers in counted
                    if answers.get((first, 0)) in firsts and answers.get((second, 0)) in seconds]
                self.assertEqual(senders(box, first, second, row=row, column=column), wanted)
                self.assertEqual(grid[row][column], len(wanted))


class SendersTest(RefusalCase):
    def assert_senders(self, wanted, row, column):
        told = senders(polled(), "place", "pet", row=row, column=column)
        self.assertEqual(told, wanted)
        self.assertIsInstance(told, list)

    def test_cells_of_options(self):
        self.assert_senders(["ann"], 1, 0)
        self.assert_senders(["bob", "fay", "gus"], 1, 1)
        self.assert_senders(["ida"], 1, 2)
        self.assert_senders([], 0, 0)
        self.assert_senders([], 2, 1)

    def test_sums(self):
        self.assert_senders(["ann", "bob", "fay", "gus", "ida"], 1, 3)
        self.assert_senders([], 2, 3)
        self.assert_senders(["ann"], 3, 0)
        self.assert_senders(["bob", "fay", "gus"], 3, 1)

    def test_the_last_cell(self):
        self.assert_senders(["ann", "bob", "fay", "gus", "ida"], 3, 3)

    def test_no_such_cell(self):
        box = polled()
        for row, column in ((4, 0), (0, 4), (-1, 0), (0, -1), (4, 4), (3, 4), (-1, -1), (10 ** 20, 0)):
            fields = {"row": row, "column": column}
            self.assert_refused(NoCell, fields, senders, box, "place", "pet", row=row, column=column)
        for row, column in ((5, 0), (0, 2), (-4, 1)):
            fields = {"row": row, "column": column}
            self.assert_refused(NoCell, fields, senders, box, "place", "one", row=row, column=column)

    def test_row_and_column_stand_behind_a_star(self):
        self.assertRaises(TypeError, senders, polled(), "place", "pet", 1, 1)

    def test_by_the_names_of_the_arguments(self):
        told = senders(column=1, row=1, second="pet", first="place", box=polled())
        self.assertEqual(told, ["bob", "fay", "gus"])

    def test_the_list_is_the_askers_own(self):
        box = polled()
        senders(box, "place", "pet", row=3, column=3).clear()
        self.assertEqual(len(senders(box, "place", "pet", row=3, column=3)), 5)


class GridRefusedTest(RefusalCase):
    def assert_no_grid(self, kind, fields, first, second, box=None):
        box = box or box_of(edition(1, *KINDS))
        before = all_told(box)
        self.assert_refused(kind, fields, grid_of, box, first, second)
        self.assert_refused(kind, fields, senders, box, first, second, row=-1, column=99)
        self.assertEqual(all_told(box), before)

    def test_no_edition(self):
        for box in (Box(), box_of(edition(2, *KINDS))):
            self.assert_no_grid(NoEdition, {}, "four", "deep", box)
            self.assert_no_grid(NoEdition, {}, "nobody", "nobody", box)
            self.assert_no_grid(NoEdition, {}, "five", "five", box)

    def test_no_question(self):
        for name in ("nobody", "", "No Name", "check", "a"):
            self.assert_no_grid(NoQuestion, {"name": name}, name, "four")
            self.assert_no_grid(NoQuestion, {"name": name}, "four", name)
            self.assert_no_grid(NoQuestion, {"name": name}, name, name)
            self.assert_no_grid(NoQuestion, {"name": name}, name, "other")
            self.assert_no_grid(NoQuestion, {"name": name}, "five", name)

    def test_no_fit(self):
        for name in ("five", "again", "some", "count"):
            self.assert_no_grid(NoFit, {"name": name}, name, "four")
            self.assert_no_grid(NoFit, {"name": name}, "four", name)
            self.assert_no_grid(NoFit, {"name": name}, name, name)
            for other in ("five", "again", "some", "count"):
                self.assert_no_grid(NoFit, {"name": name}, name, other)

    def test_one_name_twice(self):
        self.assert_no_grid(Twice, {"name": "four"}, "four", "four")
        self.assert_no_grid(Twice, {"name": "deep"}, "deep", "deep")

    def test_ones_in_sections_and_of_four_options_are_fine(self):
        box = box_of(edition(1, *KINDS))
        self.assertEqual(grid_of(box, "four", "deep"), [[0, 0, 0]] * 5)

    def test_by_the_edition_counted_in_alone(self):
        box = box_of(edition(1, PLACE), edition(3, PLACE, PET))
        self.assert_no_grid(NoQuestion, {"name": "pet"}, "place", "pet", box)


if __name__ == "__main__":
    unittest.main()
