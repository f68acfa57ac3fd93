"""Cells of a grid: which ones there are, which ones can be hidden, and the arcs that they are."""

from skiphall.errors import NoCell, NoFit


def cells_of(grid):
    """List the cells of a grid, sorted."""
    return [(row, column) for row in range(len(grid)) for column in range(len(grid[0]))]


def all_but_last(grid):
    """List the cells of a grid that can be hidden, sorted."""
    return cells_of(grid)[:-1]


def last_cell(grid):
    """Tell the last cell of all."""
    return (len(grid) - 1, len(grid[0]) - 1)


def number_at(grid, cell):
    """Tell the number in a cell."""
    row, column = cell
    return grid[row][column]


def read_hidden(grid, hidden):
    """List the hidden cells, sorted, each once; refuse the first that cannot be hidden."""
    for cell in hidden:
        refuse_no_cell(grid, cell)
        if cell == last_cell(grid):
            raise NoCell(cell[0], cell[1])
    return sorted(set(hidden))


def refuse_no_cell(grid, cell):
    """Refuse a cell that the grid has not."""
    row, column = cell
    if not (0 <= row < len(grid) and 0 <= column < len(grid[0])):
        raise NoCell(row, column)


def refuse_shown(grid, hidden, cell):
    """Refuse a cell that the grid has not, then one that is not hidden."""
    refuse_no_cell(grid, cell)
    if cell not in hidden:
        raise NoFit("cell")


def arc_of(grid, cell):
    """Tell the start and the goal of a cell, each a row or a column.

    A cell of options goes from its row to its column, and so does the last cell;
    the other sums go from their column to their row.
    """
    row, column = cell
    last_row, last_column = last_cell(grid)
    if (row == last_row) != (column == last_column):
        return ("column", column), ("row", row)
    return ("row", row), ("column", column)
