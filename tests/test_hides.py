"""Which cells are hidden: [20] and the interface's line for skiphall/hides.py."""

import copy
import random
import unittest

from skiphall.errors import BadCount, NoCell, Unsafe
from skiphall.fences import reach
from skiphall.hides import hidden_cells, is_safe
from tests.gridding import all_but_last, all_tables, as_tuples, small_grids, with_sums
from tests.refusing import RefusalCase

GRID = with_sums([[1, 9, 9], [8, 7, 5], [8, 7, 5]])
CALM = with_sums([[3, 0, 9], [0, 7, 5]])


def number_at(grid, cell):
    return grid[cell[0]][cell[1]]


def secret_of(grid, few):
    """The secret cells, in the tests' own words."""
    return [cell for cell in all_but_last(grid) if number_at(grid, cell) in range(1, few)]


def safe(grid, hidden, few, width):
    """Whether all is safe, by all the tables that fit."""
    tables = all_tables(grid, hidden)
    for cell in secret_of(grid, few):
        numbers = [number_at(table, cell) for table in tables]
        if cell not in hidden or max(numbers) - min(numbers) < width:
            return False
    return True


class IsSafeTest(RefusalCase):
    def assert_safe(self, wanted, grid, hidden, few, width):
        given = copy.deepcopy((grid, hidden))
        self.assertIs(is_safe(grid, hidden, few=few, width=width), wanted)
        again = tuple(list(reversed(hidden)) + list(hidden))
        self.assertIs(is_safe(width=width, few=few, hidden=again, grid=as_tuples(grid)), wanted)
        self.assertEqual((grid, hidden), given)

    def test_nothing_secret(self):
        for hidden in ([], [(0, 0)], all_but_last(CALM)):
            self.assert_safe(True, CALM, hidden, 3, 10 ** 9)
            self.assert_safe(True, CALM, hidden, 2, 1)

    def test_few_tells_what_is_secret(self):
        # Shown, a cell of 3 is safe where few is 3, and is not where few is 4.
        self.assert_safe(True, CALM, [], 3, 1)
        self.assert_safe(False, CALM, [], 4, 1)
        grid = with_sums([[2, 9], [9, 9]])
        self.assert_safe(True, grid, [], 2, 1)
        self.assert_safe(False, grid, [], 3, 1)

    def test_nought_is_not_secret(self):
        self.assert_safe(True, [[0, 0], [0, 0]], [], 9, 9)
        self.assert_safe(True, with_sums([[0, 0, 9], [0, 9, 9]]), [], 9, 9)

    def test_the_last_cell_is_not_secret(self):
        self.assert_safe(False, [[0, 2, 2], [0, 0, 0], [0, 2, 2]], [], 3, 1)
        # In a grid of two by two all cells but the last have its number: none of them can be made safe.
        self.assert_safe(False, [[2, 2], [2, 2]], [(0, 0), (0, 1), (1, 0)], 3, 1)
        self.assert_safe(True, [[2, 2], [2, 2]], [], 2, 1)

    def test_a_secret_cell_that_is_not_hidden(self):
        square = [(0, 0), (0, 1), (1, 0), (1, 1)]
        self.assert_safe(True, GRID, square, 3, 8)
        self.assert_safe(False, GRID, square[1:], 3, 1)
        self.assert_safe(False, GRID, [], 3, 1)

    def test_a_hidden_cell_that_can_be_reckoned(self):
        self.assert_safe(False, GRID, [(0, 0)], 3, 1)
        self.assert_safe(False, GRID, [(0, 0), (0, 1)], 3, 1)
        self.assert_safe(False, GRID, [(0, 0), (0, 1), (1, 0)], 3, 1)

    def test_width(self):
        square = [(0, 0), (0, 1), (1, 0), (1, 1)]
        self.assertEqual(reach(GRID, square, cell=(0, 0))[:2], (0, 9))
        self.assert_safe(True, GRID, square, 3, 9)
        self.assert_safe(False, GRID, square, 3, 10)

    def test_a_secret_sum_in_the_last_column_and_in_the_last_row(self):
        grid = with_sums([[0, 0, 1], [4, 5, 6], [7, 8, 9]])
        square = [(0, 2), (0, 1), (1, 2), (1, 1)]
        self.assert_safe(False, grid, square, 3, 1)
        self.assert_safe(False, grid, square + [(0, 3)], 3, 1)
        self.assert_safe(True, grid, square + [(0, 3), (1, 3)], 3, 1)
        turned = [list(row) for row in zip(*grid)]
        square = [(2, 0), (1, 0), (2, 1), (1, 1)]
        self.assert_safe(False, turned, square, 3, 1)
        self.assert_safe(True, turned, square + [(3, 0), (3, 1)], 3, 1)

    def test_as_found_by_trying_all(self):
        seen = {True: 0, False: 0}
        for grid, hidden in small_grids(31, 150):
            for few in (2, 3):
                for width in (1, 2):
                    wanted = safe(grid, hidden, few, width)
                    self.assert_safe(wanted, grid, hidden, few, width)
                    seen[wanted] += bool(secret_of(grid, few))
        self.assertGreater(min(seen.values()), 5)


class HiddenCellsTest(RefusalCase):
    def assert_hidden(self, wanted, grid, few, width):
        given = copy.deepcopy(grid)
        self.assertEqual(hidden_cells(grid, few=few, width=width), wanted)
        self.assertEqual(hidden_cells(width=width, few=few, grid=as_tuples(grid)), wanted)
        self.assertEqual(grid, given)

    def test_nothing_secret_nothing_hidden(self):
        for few, width in ((2, 1), (3, 2), (3, 10 ** 9)):
            self.assert_hidden([], CALM, few, width)
        self.assert_hidden([], [[0, 0], [0, 0]], 9, 9)
        self.assert_hidden([], [[5, 5], [5, 5]], 5, 9)

    def test_the_greatest_are_shown_first(self):
        # The sums and the nines are shown; of four cells with the secret one the smallest ones stay hidden.
        self.assert_hidden([(0, 0), (0, 2), (2, 0), (2, 2)], GRID, 3, 2)
        grid = with_sums([[1, 9, 9], [8, 7, 5], [9, 7, 5]])
        self.assert_hidden([(0, 0), (0, 2), (1, 0), (1, 2)], grid, 3, 2)

    def test_of_alike_numbers_the_first_sorted_is_shown_first(self):
        grid = with_sums([[1, 5, 5], [5, 5, 5], [5, 5, 5]])
        self.assert_hidden([(0, 0), (0, 2), (2, 0), (2, 2)], grid, 3, 2)
        grid = with_sums([[5, 5, 5], [5, 1, 5], [5, 5, 5]])
        self.assert_hidden([(1, 1), (1, 2), (2, 1), (2, 2)], grid, 3, 2)

    def test_secret_cells_stay_hidden_also_where_none_needs_them(self):
        for grid in (with_sums([[1, 2, 2], [2, 1, 2], [1, 1, 2]]), with_sums([[1, 0], [0, 9], [2, 9]])):
            hidden = hidden_cells(grid, few=3, width=1)
            self.assertTrue(set(secret_of(grid, 3)) <= set(hidden))

    def test_a_wider_reach_takes_more(self):
        grid = with_sums([[1, 2, 3, 30], [3, 4, 20, 3], [9, 9, 9, 9]])
        for width in (1, 2, 4, 8, 30):
            hidden = hidden_cells(grid, few=3, width=width)
            self.assertIs(is_safe(grid, hidden, few=3, width=width), True)
            self.assert_needed(grid, hidden, 3, width)
        self.assertNotEqual(hidden_cells(grid, few=3, width=1), hidden_cells(grid, few=3, width=30))

    def assert_needed(self, grid, hidden, few, width):
        """Each hidden cell that is not secret would, shown alone, make all unsafe."""
        for cell in hidden:
            if cell not in secret_of(grid, few):
                fewer = [other for other in hidden if other != cell]
                self.assertIs(is_safe(grid, fewer, few=few, width=width), False)

    def test_as_found_by_trying_all(self):
        seen = 0
        for grid, hidden in small_grids(32, 50):
            for few, width in ((2, 1), (3, 1), (3, 2)):
                hidden = all_but_last(grid)
                if not safe(grid, hidden, few, width):
                    self.assertRaises(Unsafe, hidden_cells, grid, few=few, width=width)
                    continue
                for cell in sorted(all_but_last(grid), key=lambda cell: (-number_at(grid, cell), cell)):
                    fewer = [other for other in hidden if other != cell]
                    if cell not in secret_of(grid, few) and safe(grid, fewer, few, width):
                        hidden = fewer
                self.assert_hidden(hidden, grid, few, width)
                seen += len(hidden) > 0
        self.assertGreater(seen, 20)

    def test_seven_by_seven(self):
        chance = random.Random(33)
        for times in range(3):
            grid = with_sums([[chance.choice((0, 1, 2, 5, 9, 40)) for column in range(6)] for row in range(6)])
            hidden = hidden_cells(grid, few=3, width=2)
            self.assertEqual(hidden, sorted(hidden))
            self.assertIs(is_safe(grid, hidden, few=3, width=2), True)
            self.assertTrue(set(secret_of(grid, 3)) <= set(hidden))
            self.assert_needed(grid, hidden, 3, 2)

    def test_great_numbers(self):
        great = 10 ** 40
        grid = with_sums([[1, great, 2 * great], [great, 2, 7], [3 * great, great, 0]])
        for width in (1, great, great + 1, 2 * great):
            hidden = hidden_cells(grid, few=3, width=width)
            self.assertIs(is_safe(grid, hidden, few=3, width=width), True)
            self.assert_needed(grid, hidden, 3, width)

    def test_the_list_is_the_askers_own(self):
        hidden_cells(GRID, few=3, width=2).clear()
        self.assertEqual(len(hidden_cells(GRID, few=3, width=2)), 4)


class RefusedTest(RefusalCase):
    def assert_counts(self, fields, few, width):
        for hidden in ([], [(0, 0)], [(9, 9)], [(3, 3)], ((-1, 0),)):
            self.assert_refused(BadCount, fields, is_safe, GRID, hidden, few=few, width=width)
        self.assert_refused(BadCount, fields, hidden_cells, GRID, few=few, width=width)
        self.assert_refused(BadCount, fields, hidden_cells, [[1, 1], [1, 1]], few=few, width=width)

    def test_few_then_width(self):
        for few in (1, 0, -5):
            for width in (1, 0, -5):
                self.assert_counts({"what": "few", "count": few}, few, width)
        for width in (0, -1, -(10 ** 20)):
            self.assert_counts({"what": "width", "count": width}, 2, width)

    def test_no_cell(self):
        for hidden, cell in (([(3, 3)], (3, 3)), ([(0, 0), (4, 0), (3, 3)], (4, 0)), ([(0, -1)], (0, -1))):
            fields = {"row": cell[0], "column": cell[1]}
            self.assert_refused(NoCell, fields, is_safe, GRID, hidden, few=2, width=1)

    def test_no_cell_where_nothing_is_secret(self):
        self.assert_refused(NoCell, {"row": 2, "column": 3}, is_safe, CALM, [(2, 3)], few=2, width=1)

    def test_unsafe_with_the_first_secret_cell_whose_reach_is_too_small(self):
        for grid, few, width, cell in (
            ([[1, 1], [1, 1]], 2, 1, (0, 0)),
            (with_sums([[0, 1]]), 2, 1, (0, 2)),
            (with_sums([[0], [1]]), 2, 1, (2, 0)),
            (with_sums([[1], [1]]), 3, 1, (2, 0)),
            (with_sums([[1, 1], [0, 0]]), 2, 3, (0, 0)),
            (with_sums([[0, 0], [0, 1]]), 2, 2, (1, 1)),
            (with_sums([[0, 2], [0, 1]]), 2, 9, (1, 1)),
            (with_sums([[9, 8, 7], [6, 5, 1]]), 2, 37, (1, 2)),
        ):
            self.assert_refused(Unsafe, {"cell": cell}, hidden_cells, grid, few=few, width=width)

    def test_unsafe_just_beyond_the_number_of_the_last_cell(self):
        grid = with_sums([[9, 8, 7], [6, 5, 1]])
        self.assertEqual(hidden_cells(grid, few=2, width=36)[-1], (2, 2))
        self.assert_refused(Unsafe, {"cell": (1, 2)}, hidden_cells, grid, few=2, width=37)

    def test_few_and_width_stand_behind_a_star(self):
        self.assertRaises(TypeError, is_safe, GRID, [], 3, 2)
        self.assertRaises(TypeError, hidden_cells, GRID, 3, 2)


if __name__ == "__main__":
    unittest.main()
