"""Tables that are told: [21] and the interface's line for skiphall/hides.py."""

import unittest

from skiphall.boxes import Box
from skiphall.errors import BadCount, HallError, NoEdition, NoFit, NoQuestion, Twice, Unsafe
from skiphall.fences import fits, reach
from skiphall.forms import Number, One
from skiphall.grids import grid_of
from skiphall.hides import Told, hidden_cells, told
from tests.booking import events_with
from tests.boxing import PET, PLACE, all_told, box_of, edition, polled_events
from tests.gridding import all_but_last
from tests.refusing import RefusalCase


def box_with(cells, *rows):
    """A box in which the cells of options of first and second have these numbers."""
    return box_of(*events_with(cells, *rows))


class ToldTest(unittest.TestCase):
    def assert_told(self, wanted, table):
        self.assertIsInstance(table, Told)
        self.assertEqual(vars(table), dict(zip(("shown", "rows", "columns", "secret"), wanted)))
        for worth in [table.shown, table.rows, table.columns, table.secret] + table.shown:
            self.assertIsInstance(worth, list)

    def test_its_four_fields(self):
        box = box_with([[1, 9, 9], [8, 7, 5], [8, 7, 5]])
        self.assert_told((
            [
                [None, 9, None, 19],
                [8, 7, 5, 20],
                [None, 7, None, 20],
                [17, 23, 19, 59],
            ],
            ["p", "q", "r"],
            ["p", "q", "r"],
            [(0, 0)],
        ), told(box, "first", "second", few=3, width=2))

    def test_nothing_secret_nothing_hidden(self):
        box = box_with([[3, 0, 4], [0, 5, 6]])
        self.assert_told((
            [[3, 0, 4, 7], [0, 5, 6, 11], [3, 5, 10, 18]],
            ["p", "q"],
            ["p", "q", "r"],
            [],
        ), told(box, "first", "second", few=3, width=2))

    def test_noughts_are_shown_as_noughts(self):
        table = told(box_of(edition(1, PLACE, PET)), "place", "pet", few=3, width=2)
        self.assert_told(([[0, 0, 0]] * 4, ["house", "flat", "tent"], ["cat", "dog"], []), table)

    def test_the_secret_cells_are_sorted_with_sums_among_them(self):
        box = box_with([[4, 5, 6], [0, 0, 2], [7, 8, 9]])
        table = told(box, "first", "second", few=3, width=2)
        self.assertEqual(table.secret, [(1, 2), (1, 3)])
        self.assertEqual([table.shown[1][2], table.shown[1][3]], [None, None])

    def test_few_and_width(self):
        box = box_with([[3, 5], [5, 9]])
        self.assertEqual(told(box, "first", "second", few=3, width=2).secret, [])
        self.assertEqual(told(box, "first", "second", few=4, width=2).secret, [(0, 0)])
        self.assertEqual(told(box, "first", "second", few=4, width=8).shown, [
            [None, None, 8], [None, None, 14], [8, 14, 22]])
        self.assertEqual(told(box, "first", "second", few=4, width=9).shown, [
            [None, None, None], [None, 9, None], [None, None, 22]])

    def test_by_the_names_of_the_arguments(self):
        box = box_with([[3, 5], [5, 9]])
        self.assertEqual(
            vars(told(width=2, few=4, second="second", first="first", box=box)),
            vars(told(box, "first", "second", few=4, width=2)))
        self.assertRaises(TypeError, told, box, "first", "second", 4, 2)

    def test_the_box_stays_and_the_lists_are_the_askers_own(self):
        box = box_with([[1, 9, 9], [8, 7, 5], [8, 7, 5]])
        before = all_told(box)
        first = told(box, "first", "second", few=3, width=2)
        first.shown[0].clear()
        first.shown.pop()
        first.rows.clear()
        first.columns.append("z")
        first.secret.clear()
        self.assertEqual(all_told(box), before)
        second = told(box, "first", "second", few=3, width=2)
        self.assertEqual(second.shown[0], [None, 9, None, 19])
        self.assertEqual((second.rows, second.columns, second.secret), (["p", "q", "r"], ["p", "q", "r"], [(0, 0)]))

    def test_so_nothing_small_is_given_away(self):
        seen = 0
        for seed in range(60):
            box = box_of(*polled_events(seed, 60))
            grid = grid_of(box, "first", "second")
            try:
                table = told(box, "first", "second", few=3, width=2)
            except Unsafe:
                continue
            hidden = hidden_cells(grid, few=3, width=2)
            for row, column in all_but_last(grid) + [(len(grid) - 1, len(grid[0]) - 1)]:
                self.assertEqual(table.shown[row][column], None if (row, column) in hidden else grid[row][column])
            for row, column in table.secret:
                self.assertIn(grid[row][column], (1, 2))
                low, high, least, most = reach(grid, hidden, cell=(row, column))
                self.assertGreaterEqual(most[row][column] - least[row][column], 2)
                for one in (least, most):
                    self.assertTrue(fits(grid, hidden, one))
                seen += 1
        self.assertGreater(seen, 20)


class ToldRefusedTest(RefusalCase):
    def assert_not_told(self, kind, fields, box, first, second, few, width):
        before = all_told(box)
        self.assert_refused(kind, fields, told, box, first, second, few=few, width=width)
        self.assertEqual(all_told(box), before)

    def test_as_grid_ahead_of_counts(self):
        box = box_with([[1]], Number("number", 0, 1), One("five", ["a", "b", "c", "d", "e"]))
        for few, width in ((3, 2), (1, 0)):
            self.assert_not_told(NoEdition, {}, Box(), "first", "first", few, width)
            self.assert_not_told(NoQuestion, {"name": "nobody"}, box, "nobody", "other", few, width)
            self.assert_not_told(NoQuestion, {"name": "other"}, box, "number", "other", few, width)
            self.assert_not_told(NoFit, {"name": "number"}, box, "first", "number", few, width)
            self.assert_not_told(NoFit, {"name": "five"}, box, "five", "number", few, width)
            self.assert_not_told(Twice, {"name": "first"}, box, "first", "first", few, width)

    def test_counts_ahead_of_unsafe(self):
        box = box_with([[1]])
        for few, width, fields in (
            (1, 0, {"what": "few", "count": 1}),
            (-4, 2, {"what": "few", "count": -4}),
            (2, 0, {"what": "width", "count": 0}),
            (9, -9, {"what": "width", "count": -9}),
        ):
            self.assert_not_told(BadCount, fields, box, "first", "second", few, width)

    def test_unsafe(self):
        self.assert_not_told(Unsafe, {"cell": (0, 0)}, box_with([[1]]), "first", "second", 2, 1)
        self.assert_not_told(Unsafe, {"cell": (1, 0)}, box_with([[0, 9], [2, 9]]), "first", "second", 3, 21)

    def test_all_refusals_are_of_the_base(self):
        self.assertRaises(HallError, told, Box(), "a", "b", few=3, width=2)


if __name__ == "__main__":
    unittest.main()
