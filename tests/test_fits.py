"""Grids, hidden cells and tables that fit: [17] and fits of [18]."""

import copy
import unittest

from skiphall.errors import NoCell
from skiphall.fences import fits
from tests.gridding import all_but_last, all_tables, as_tuples, small_grids, with_sums
from tests.refusing import RefusalCase

GRID = with_sums([[1, 4, 2], [3, 0, 5]])
HIDDEN = [(0, 0), (0, 1), (1, 0), (1, 1)]


class FitsTest(RefusalCase):
    def assert_fits(self, wanted, hidden, table, grid=None):
        grid = grid or GRID
        given = copy.deepcopy((grid, hidden, table))
        self.assertIs(fits(grid, hidden, table), wanted)
        self.assertIs(fits(as_tuples(grid), tuple(hidden), as_tuples(table)), wanted)
        self.assertIs(fits(grid=grid, hidden=list(reversed(hidden)), table=table), wanted)
        self.assertEqual((grid, hidden, table), given)

    def test_the_grid_itself(self):
        for hidden in ([], HIDDEN, [(2, 0)], all_but_last(GRID)):
            self.assert_fits(True, hidden, GRID)

    def test_hidden_cells_may_have_other_numbers(self):
        other = with_sums([[0, 5, 2], [4, -0, 5]])
        other[1][1] = 0
        self.assert_fits(False, HIDDEN, other)
        self.assert_fits(True, HIDDEN, with_sums([[2, 3, 2], [2, 1, 5]]))
        self.assert_fits(True, HIDDEN, with_sums([[4, 1, 2], [0, 3, 5]]))
        self.assert_fits(True, all_but_last(GRID), with_sums([[0, 0, 0], [0, 0, 15]]))

    def test_hidden_sums_may_have_other_numbers(self):
        hidden = [(0, 0), (1, 0), (0, 3), (1, 3)]
        self.assert_fits(True, hidden, with_sums([[4, 4, 2], [0, 0, 5]]))
        self.assert_fits(False, hidden[:-1], with_sums([[4, 4, 2], [0, 0, 5]]))

    def test_numbers_below_nought(self):
        self.assert_fits(False, HIDDEN, with_sums([[5, 0, 2], [-1, 4, 5]]))
        self.assert_fits(False, HIDDEN, with_sums([[-1, 6, 2], [5, -2, 5]]))
        hidden = all_but_last(GRID)
        self.assert_fits(False, hidden, with_sums([[-1, 0, 0], [0, 0, 16]]))

    def test_a_row_s_sum(self):
        table = copy.deepcopy(GRID)
        table[0][3] += 1
        table[1][3] -= 1
        self.assert_fits(False, [(0, 3), (1, 3)], table)
        self.assert_fits(False, all_but_last(GRID), table)

    def test_a_column_s_sum(self):
        table = copy.deepcopy(GRID)
        table[2][0] += 1
        table[2][1] -= 1
        self.assert_fits(False, [(2, 0), (2, 1)], table)
        self.assert_fits(False, all_but_last(GRID), table)

    def test_sums_of_the_last_row_and_the_last_column(self):
        # Each row but the last one and each column but the last one has its sum, the last cell belongs to neither.
        self.assert_fits(False, all_but_last(GRID), with_sums([[1, 4, 2], [3, 0, 4]])[:2] + [[4, 4, 6, 15]])
        table = [[1, 4, 2, 7], [3, 0, 4, 8], [4, 4, 6, 15]]
        self.assert_fits(False, all_but_last(GRID), table)

    def test_shown_cells(self):
        other = with_sums([[2, 3, 2], [2, 1, 5]])
        for shown in HIDDEN:
            self.assert_fits(False, [cell for cell in HIDDEN if cell != shown], other)
        self.assert_fits(False, [], other)
        self.assert_fits(True, all_but_last(GRID), other)

    def test_the_last_cell_is_shown(self):
        self.assert_fits(False, all_but_last(GRID), with_sums([[1, 4, 2], [3, 0, 6]]))
        self.assert_fits(False, all_but_last(GRID), with_sums([[0, 0, 0], [0, 0, 0]]))

    def test_as_many_rows_and_columns(self):
        hidden = all_but_last(GRID)
        for table in (
            [],
            [[]],
            [[15]],
            GRID[:2],
            [[7, 7], [8, 8], [15, 15]],
            [[0, 0, 0, 0, 0], [0, 0, 0, 15, 15], [0, 0, 0, 15, 15]],
            with_sums([[1, 4, 2], [3, 0, 5], [0, 0, 0]]),
            with_sums([[1, 4, 2]]),
            [[1, 4, 2, 7], [3, 0, 5], [4, 4, 7, 15]],
            [[1, 4, 2, 7], [3, 0, 5, 8], [4, 4, 7, 15, 0]],
            [[1, 4, 2, 7], [3, 0, 5, 8], []],
            [[1, 4, 2, 7], [3, 0, 5, 8], [4, 4, 7, 15], []],
        ):
            self.assert_fits(False, hidden, table)

    def test_hidden_cells_told_twice(self):
        self.assert_fits(True, HIDDEN + HIDDEN, with_sums([[2, 3, 2], [2, 1, 5]]))
        self.assert_fits(True, [(0, 0)] * 3, GRID)

    def test_two_by_two(self):
        self.assert_fits(True, [], [[0, 0], [0, 0]], [[0, 0], [0, 0]])
        self.assert_fits(True, [(0, 0)], [[3, 3], [3, 3]], [[3, 3], [3, 3]])
        self.assert_fits(False, [(0, 0), (0, 1), (1, 0)], [[2, 2], [2, 2]], [[3, 3], [3, 3]])

    def test_just_the_tables_found_by_trying_all(self):
        for grid, hidden in small_grids(17, 60):
            found = all_tables(grid, hidden)
            self.assertIn(grid, found)
            for table in all_tables(grid, all_but_last(grid)):
                self.assertIs(fits(grid, hidden, table), table in found)


class NoCellTest(RefusalCase):
    def test_the_first_of_hidden_that_is_none_or_is_the_last(self):
        for hidden, cell in (
            ([(3, 0)], (3, 0)),
            ([(0, 4)], (0, 4)),
            ([(-1, 0)], (-1, 0)),
            ([(0, -1)], (0, -1)),
            ([(2, 3)], (2, 3)),
            ([(0, 0), (2, 3), (9, 9)], (2, 3)),
            ([(0, 0), (9, 9), (2, 3), (-1, -1)], (9, 9)),
            ([(3, 4), (1, 1)], (3, 4)),
        ):
            fields = {"row": cell[0], "column": cell[1]}
            self.assert_refused(NoCell, fields, fits, GRID, hidden, GRID)
            self.assert_refused(NoCell, fields, fits, GRID, tuple(hidden), [])


if __name__ == "__main__":
    unittest.main()
