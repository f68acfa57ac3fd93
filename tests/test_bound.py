"""What a fence shows: bound of [19]."""

import copy
import random
import unittest

from skiphall.fences import bound
from tests.gridding import all_but_last, all_tables, as_tuples, great_grids, small_grids, with_sums
from tests.refusing import RefusalCase

GRID = with_sums([[1, 4, 2], [3, 0, 5]])
SQUARE = [(0, 0), (0, 1), (1, 0), (1, 1)]
ALL_ROWS, ALL_COLUMNS = (0, 1, 2), (0, 1, 2, 3)


def arc(grid, cell):
    """The start and the goal of a cell, case by case as the document tells them."""
    row, column = cell
    last_row, last_column = len(grid) - 1, len(grid[0]) - 1
    if cell == (last_row, last_column):
        return ("r", last_row), ("c", last_column)
    if column == last_column:
        return ("c", last_column), ("r", row)
    if row == last_row:
        return ("c", column), ("r", last_row)
    return ("r", row), ("c", column)


def shown_by(grid, hidden, cell, fence):
    """What a fence shows, said once more in the tests' own words."""
    inside = {("r", row) for row in fence[0]} | {("c", column) for column in fence[1]}
    coming, going, rest = [], [], 0
    for other in all_but_last(grid) + [(len(grid) - 1, len(grid[0]) - 1)]:
        start, goal = arc(grid, other)
        if (start in inside) == (goal in inside):
            continue
        if other in hidden:
            (coming if goal in inside else going).append(other)
        elif goal in inside:
            rest -= grid[other[0]][other[1]]
        else:
            rest += grid[other[0]][other[1]]
    if cell not in coming:
        return (None, None)
    return (rest if coming == [cell] else None, rest if going == [] else None)


class BoundTest(RefusalCase):
    def assert_bound(self, wanted, hidden, cell, fence, grid=GRID):
        given = copy.deepcopy((grid, hidden, fence))
        told = bound(grid, hidden, cell=cell, fence=fence)
        self.assertEqual(told, wanted)
        self.assertIsInstance(told, tuple)
        rows, columns = fence
        again = (list(rows) + list(rows), list(reversed(columns)))
        self.assertEqual(bound(as_tuples(grid), tuple(reversed(hidden)), cell=cell, fence=again), wanted)
        self.assertEqual((grid, hidden, fence), given)

    def test_the_column_of_a_cell_of_options(self):
        # Into column 0 come (0, 0) and (1, 0), out of it goes the sum (2, 0).
        self.assert_bound((1, 1), [(0, 0)], (0, 0), ((), (0,)))
        self.assert_bound((None, 4), SQUARE, (0, 0), ((), (0,)))
        self.assert_bound((None, 4), SQUARE, (1, 0), ((), (0,)))
        self.assert_bound((None, None), [(0, 0), (1, 0), (2, 0)], (0, 0), ((), (0,)))

    def test_a_low_below_nought(self):
        # The rest is the shown sum that goes out, less what comes in.
        self.assert_bound((-3, None), [(0, 0), (2, 0)], (0, 0), ((), (0,)))

    def test_all_but_the_row_of_a_cell_of_options(self):
        # The last column's sum of the row goes out, the row's cells come in.
        self.assert_bound((1, 1), [(0, 0)], (0, 0), ((1, 2), ALL_COLUMNS))
        self.assert_bound((None, 5), SQUARE, (0, 0), ((1, 2), ALL_COLUMNS))
        self.assert_bound((-6, None), [(0, 0), (0, 3)], (0, 0), ((1, 2), ALL_COLUMNS))

    def test_a_fence_that_the_cell_goes_out_of(self):
        self.assert_bound((None, None), SQUARE, (0, 0), ((0,), ()))
        self.assert_bound((None, None), SQUARE, (0, 0), ((0, 1), (1,)))
        self.assert_bound((None, None), [(0, 0)], (0, 0), ((0,), ()))

    def test_a_fence_that_the_cell_neither_comes_into_nor_goes_out_of(self):
        self.assert_bound((None, None), SQUARE, (0, 0), ((), ()))
        self.assert_bound((None, None), SQUARE, (0, 0), ((0,), (0,)))
        self.assert_bound((None, None), SQUARE, (0, 0), ((1, 2), (1, 2, 3)))
        self.assert_bound((None, None), [(0, 0)], (0, 0), (ALL_ROWS, ALL_COLUMNS))

    def test_the_sums_of_rows_come_from_the_last_column(self):
        # Into row 0 comes (0, 3), out of it go its cells of options.
        self.assert_bound((7, 7), [(0, 3)], (0, 3), ((0,), ()))
        self.assert_bound((6, None), [(0, 3), (0, 0)], (0, 3), ((0,), ()))
        self.assert_bound((None, None), [(0, 3)], (0, 3), ((), (3,)))
        # All rows' sums come into these rows, all columns' sums go out of these columns.
        self.assert_bound((None, 15), [(0, 3), (1, 3)], (0, 3), ((0, 1), (0, 1, 2)))

    def test_the_sums_of_columns_go_to_the_last_row(self):
        # Into the last row come the columns' sums, out of it goes the last cell.
        self.assert_bound((4, 4), [(2, 0)], (2, 0), ((2,), ()))
        self.assert_bound((None, 8), [(2, 0), (2, 1)], (2, 0), ((2,), ()))
        self.assert_bound((None, None), [(2, 0)], (2, 0), ((), (0,)))
        self.assert_bound((None, 15), all_but_last(GRID), (2, 0), ((2,), ()))

    def test_the_last_cell_goes_from_the_last_row_to_the_last_column(self):
        # Into the last column comes the last cell alone: no hidden cell can come in there.
        self.assert_bound((None, None), all_but_last(GRID), (0, 3), ((), (3,)))
        self.assert_bound((7, 7), [(0, 3)], (0, 3), (ALL_ROWS, (0, 1, 2)))
        self.assert_bound((None, 15), [(0, 3), (1, 3)], (0, 3), (ALL_ROWS, (0, 1, 2)))
        self.assert_bound((4, 4), [(2, 0)], (2, 0), ((2,), (3,)))
        self.assert_bound((None, None), [(2, 0), (2, 1), (0, 3)], (2, 0), ((2,), (3,)))

    def test_two_by_two(self):
        grid = [[3, 3], [3, 3]]
        self.assert_bound((3, 3), [(0, 0)], (0, 0), ((), (0,)), grid)
        self.assert_bound((0, None), [(0, 0), (1, 0)], (0, 0), ((), (0,)), grid)
        self.assert_bound((3, 3), [(0, 0), (0, 1), (1, 0)], (1, 0), ((1,), ()), grid)

    def test_in_the_tests_own_words(self):
        chance = random.Random(19)
        for grids in (small_grids(22, 60), great_grids(23, 12)):
            for grid, hidden in grids:
                for cell in hidden:
                    for times in range(8):
                        fence = tuple(
                            [at for at in range(many) if chance.random() < 0.5] for many in (len(grid), len(grid[0])))
                        wanted = shown_by(grid, hidden, cell, fence)
                        self.assertEqual(bound(fence=fence, cell=cell, hidden=hidden, grid=grid), wanted)

    def test_no_table_that_fits_is_out_of_it(self):
        chance = random.Random(24)
        for grid, hidden in small_grids(25, 60):
            tables = all_tables(grid, hidden)
            for cell in hidden:
                for times in range(8):
                    fence = tuple(
                        [at for at in range(many) if chance.random() < 0.5] for many in (len(grid), len(grid[0])))
                    low, high = bound(grid, hidden, cell=cell, fence=fence)
                    numbers = [table[cell[0]][cell[1]] for table in tables]
                    self.assertTrue(low is None or low <= min(numbers))
                    self.assertTrue(high is None or high >= max(numbers))

    def test_cell_and_fence_stand_behind_a_star(self):
        self.assertRaises(TypeError, bound, GRID, SQUARE, (0, 0), ((), (0,)))


if __name__ == "__main__":
    unittest.main()
