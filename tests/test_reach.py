"""The reach of a hidden cell, and the fences that show it: reach of [18] and fences of [19]."""

import copy
import random
import unittest

from skiphall.errors import NoCell, NoFit
from skiphall.fences import bound, fences, fits, reach
from tests.gridding import all_but_last, all_tables, as_tuples, great_grids, small_grids, with_sums
from tests.refusing import RefusalCase

GRID = with_sums([[1, 4, 2], [3, 0, 5]])
SQUARE = [(0, 0), (0, 1), (1, 0), (1, 1)]


class ReachCase(RefusalCase):
    def assert_reach(self, low, high, grid, hidden, cell):
        """The reach is so, its tables fit and have it, and the fences show it."""
        given = copy.deepcopy((grid, hidden))
        told = reach(grid, hidden, cell=cell)
        self.assertIsInstance(told, tuple)
        self.assertEqual(told[:2], (low, high))
        for number, table in zip(told[:2], told[2:]):
            self.assertIs(fits(grid, hidden, table), True)
            self.assertEqual(table[cell[0]][cell[1]], number)
            self.assertEqual([table.__class__] + [row.__class__ for row in table], [list] * (len(grid) + 1))
        first, second = fences(grid, hidden, cell=cell)
        if low > 0 or first != ((), ()):
            self.assertEqual(bound(grid, hidden, cell=cell, fence=first)[0], low)
        self.assertEqual(bound(grid, hidden, cell=cell, fence=second)[1], high)
        self.assertEqual((grid, hidden), given)


class ReachTest(ReachCase):
    def test_no_other_way(self):
        self.assert_reach(1, 1, GRID, [(0, 0)], (0, 0))
        self.assert_reach(7, 7, GRID, [(0, 3)], (0, 3))
        self.assert_reach(4, 4, GRID, [(2, 0)], (2, 0))
        self.assert_reach(0, 0, GRID, [(1, 1)], (1, 1))
        for cell in ((0, 0), (1, 1)):
            self.assert_reach(GRID[cell[0]][cell[1]], GRID[cell[0]][cell[1]], GRID, [(0, 0), (1, 1)], cell)
        for cell in ((0, 0), (0, 1)):
            self.assert_reach(GRID[cell[0]][cell[1]], GRID[cell[0]][cell[1]], GRID, [(0, 0), (0, 1)], cell)

    def test_a_square(self):
        self.assert_reach(1, 4, GRID, SQUARE, (0, 0))
        self.assert_reach(1, 4, GRID, SQUARE, (0, 1))
        self.assert_reach(0, 3, GRID, SQUARE, (1, 0))
        self.assert_reach(0, 3, GRID, SQUARE, (1, 1))

    def test_low_above_nought(self):
        self.assert_reach(3, 6, with_sums([[5, 1], [9, 2]]), SQUARE, (0, 0))
        self.assert_reach(4, 10, with_sums([[2, 9], [5, 1]]), SQUARE, (0, 1))
        self.assert_reach(8, 11, with_sums([[9, 2, 7], [5, 1, 7]]), SQUARE, (0, 0))

    def test_low_and_high_are_nought(self):
        grid = with_sums([[0, 2, 0], [3, 0, 5]])
        self.assert_reach(0, 0, grid, [(0, 0), (0, 2), (1, 0), (1, 1)], (1, 1))
        self.assert_reach(0, 0, grid, [(1, 1)], (1, 1))

    def test_hidden_sums(self):
        grid = with_sums([[3, 1], [2, 2]])
        hidden = [(0, 0), (0, 2), (1, 0), (1, 2)]
        self.assert_reach(0, 5, grid, hidden, (0, 0))
        self.assert_reach(1, 6, grid, hidden, (0, 2))
        self.assert_reach(2, 7, grid, hidden, (1, 2))
        self.assert_reach(3, 3, grid, [(2, 1), (0, 2)], (2, 1))
        hidden = [(2, 0), (2, 1), (0, 0), (0, 1)]
        self.assert_reach(0, 4, grid, hidden, (0, 1))
        self.assert_reach(2, 6, grid, hidden, (2, 0))

    def test_all_but_the_last_cell(self):
        for grid in (GRID, with_sums([[3, 1], [2, 2]]), with_sums([[0, 0], [1, 0]]), with_sums([[0, 0, 0]] * 2)):
            for cell in all_but_last(grid):
                self.assert_reach(0, grid[-1][-1], grid, all_but_last(grid), cell)

    def test_all_but_the_last_cell_where_there_is_one_row_or_column_of_options(self):
        grid = with_sums([[1, 2, 3]])
        for cell in all_but_last(grid):
            self.assert_reach(6 if cell == (0, 3) else 0, 6, grid, all_but_last(grid), cell)
        grid = with_sums([[1], [2], [3]])
        for cell in all_but_last(grid):
            self.assert_reach(6 if cell == (3, 0) else 0, 6, grid, all_but_last(grid), cell)

    def test_two_by_two(self):
        for hidden in ([(0, 0)], [(0, 1)], [(1, 0)], [(0, 0), (1, 0)], [(0, 0), (0, 1), (1, 0)]):
            for cell in hidden:
                self.assert_reach(3, 3, [[3, 3], [3, 3]], hidden, cell)
                self.assert_reach(0, 0, [[0, 0], [0, 0]], hidden, cell)

    def test_seven_by_seven(self):
        cells = [[(row * 7 + column * 3) % 5 for column in range(6)] for row in range(6)]
        grid = with_sums(cells)
        self.assert_reach(0, min(grid[2][6], grid[6][4]), grid, [
            (row, column) for row in range(6) for column in range(6)], (2, 4))
        self.assert_reach(0, grid[6][6], grid, all_but_last(grid), (6, 0))
        self.assert_reach(cells[5][5], cells[5][5], grid, [(row, row) for row in range(6)], (5, 5))

    def test_great_numbers(self):
        great = 10 ** 30
        grid = with_sums([[great, 1], [great + 1, 3 * great]])
        self.assert_reach(0, great + 1, grid, SQUARE, (0, 0))
        self.assert_reach(2 * great, 3 * great + 1, grid, SQUARE, (1, 1))

    def test_two_by_seven_and_seven_by_two(self):
        grid = with_sums([[1, 2, 3, 4, 5, 6]])
        self.assert_reach(0, 3, grid, [(0, 0), (0, 1), (1, 0), (1, 1)], (0, 0))
        turned = [list(row) for row in zip(*grid)]
        self.assert_reach(0, 3, turned, [(0, 0), (0, 1), (1, 0), (1, 1)], (1, 0))
        self.assert_reach(4, 4, turned, [(3, 1), (4, 0)], (3, 1))

    def test_as_found_by_trying_all(self):
        for grid, hidden in small_grids(18, 250):
            tables = all_tables(grid, hidden)
            for cell in hidden:
                numbers = [table[cell[0]][cell[1]] for table in tables]
                self.assert_reach(min(numbers), max(numbers), grid, hidden, cell)

    def test_over_great_grids_the_fences_show_it(self):
        # A table that fits and a fence that shows the same number are proof enough that it is the reach.
        for grid, hidden in great_grids(19, 12):
            for cell in hidden:
                low, high, least, most = reach(grid, hidden, cell=cell)
                self.assert_reach(low, high, grid, hidden, cell)
                self.assertTrue(low <= grid[cell[0]][cell[1]] <= high)


class AlikeTest(unittest.TestCase):
    def test_told_twice_in_any_order_and_as_lists_or_tuples(self):
        chance = random.Random(20)
        for grid, hidden in small_grids(21, 40):
            for cell in hidden:
                again = hidden + chance.sample(hidden, len(hidden) // 2)
                chance.shuffle(again)
                for deed in (reach, fences):
                    wanted = deed(grid, hidden, cell=cell)
                    self.assertEqual(deed(grid, again, cell=cell), wanted)
                    self.assertEqual(deed(as_tuples(grid), tuple(hidden), cell=cell), wanted)
                    self.assertEqual(deed(cell=cell, hidden=hidden, grid=grid), wanted)

    def test_the_tables_are_the_asker_s_own(self):
        for hidden in ([(0, 0)], SQUARE):
            grid = copy.deepcopy(GRID)
            wanted = copy.deepcopy(reach(grid, hidden, cell=(0, 0)))
            low, high, least, most = reach(grid, hidden, cell=(0, 0))
            least[0][0] += 9
            most[0].clear()
            most.pop()
            self.assertEqual(grid, GRID)
            self.assertEqual(reach(grid, hidden, cell=(0, 0)), wanted)
            self.assertEqual(least[1:], wanted[2][1:])

    def test_fences_are_pairs_of_rows_of_numbers(self):
        for fence in fences(with_sums([[5, 1], [9, 2]]), SQUARE, cell=(0, 0)):
            rows, columns = fence
            self.assertIsInstance(fence, tuple)
            for numbers in (rows, columns):
                self.assertIsInstance(numbers, tuple)
                self.assertEqual(list(numbers), sorted(numbers))
                self.assertTrue(set(numbers) <= {0, 1, 2})

    def test_the_cell_stands_behind_a_star(self):
        self.assertRaises(TypeError, reach, GRID, SQUARE, (0, 0))
        self.assertRaises(TypeError, fences, GRID, SQUARE, (0, 0))


class RefusedTest(RefusalCase):
    def assert_reckoned(self, kind, fields, hidden, cell):
        for cells in (hidden, tuple(hidden)):
            self.assert_refused(kind, fields, reach, GRID, cells, cell=cell)
            self.assert_refused(kind, fields, fences, GRID, cells, cell=cell)
            self.assert_refused(kind, fields, bound, GRID, cells, cell=cell, fence=((0,), (1,)))

    def test_no_cell_of_the_hidden_ones(self):
        for hidden, cell in (
            ([(2, 3)], (2, 3)),
            ([(0, 0), (2, 3), (3, 3)], (2, 3)),
            ([(0, 0), (3, 0), (2, 3)], (3, 0)),
            ([(0, -1), (0, 0)], (0, -1)),
        ):
            for asked in ((0, 0), (1, 1), (2, 3), (9, 9)):
                self.assert_reckoned(NoCell, {"row": cell[0], "column": cell[1]}, hidden, asked)

    def test_no_cell_of_the_cell(self):
        for cell in ((3, 0), (0, 4), (-1, 0), (0, -1), (9, 9), (-3, -4)):
            for hidden in ([], SQUARE):
                self.assert_reckoned(NoCell, {"row": cell[0], "column": cell[1]}, hidden, cell)

    def test_a_cell_that_is_not_hidden(self):
        for cell in ((0, 2), (2, 0), (0, 3), (2, 3)):
            for hidden in ([], SQUARE):
                self.assert_reckoned(NoFit, {"name": "cell"}, hidden, cell)
        self.assert_reckoned(NoFit, {"name": "cell"}, all_but_last(GRID), (2, 3))


if __name__ == "__main__":
    unittest.main()
