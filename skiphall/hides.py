"""Hides: which cells of a grid are hidden, so that nobody can reckon its small numbers too near."""

from skiphall.cells import all_but_last, number_at, read_hidden
from skiphall.errors import BadCount, Unsafe
from skiphall.flows import least_flow, most_flow
from skiphall.grids import grid_of, options_of_both

LEAST_FEW = 2
LEAST_WIDTH = 1


class Told:
    """A table as it is told: its numbers, None where they are hidden, its options, and its secret cells."""

    def __init__(self, shown, rows, columns, secret):
        self.shown = shown
        self.rows = rows
        self.columns = columns
        self.secret = secret


def is_safe(grid, hidden, *, few, width):
    """Tell whether each secret cell is hidden, and its reach wide enough."""
    refuse_few_and_width(few, width)
    cells = read_hidden(grid, hidden)
    return first_unsafe(grid, cells, secret_cells(grid, few), width) is None


def hidden_cells(grid, *, few, width):
    """List cells that are hidden so that all is safe, of which each one that is not secret is needed."""
    refuse_few_and_width(few, width)
    secret = secret_cells(grid, few)
    hidden = all_but_last(grid)
    unsafe = first_unsafe(grid, hidden, secret, width)
    if unsafe is not None:
        raise Unsafe(unsafe)
    for cell in greatest_first(grid, hidden):
        fewer = [other for other in hidden if other != cell]
        if cell not in secret and first_unsafe(grid, fewer, secret, width) is None:
            hidden = fewer
    return hidden


def told(box, first, second, *, few, width):
    """Tell the table of two questions, its small numbers hidden."""
    grid = grid_of(box, first, second)
    rows, columns = options_of_both(box, first, second)
    hidden = hidden_cells(grid, few=few, width=width)
    shown = []
    for row, numbers in enumerate(grid):
        shown.append([None if (row, column) in hidden else number for column, number in enumerate(numbers)])
    return Told(shown, rows, columns, secret_cells(grid, few))


def refuse_few_and_width(few, width):
    """Refuse a few by which nothing is secret, then a width by which nothing need be hidden."""
    if few < LEAST_FEW:
        raise BadCount("few", few)
    if width < LEAST_WIDTH:
        raise BadCount("width", width)


def secret_cells(grid, few):
    """List the cells whose numbers are small, sorted."""
    return [cell for cell in all_but_last(grid) if 1 <= number_at(grid, cell) < few]


def greatest_first(grid, cells):
    """List cells, those with the greatest numbers first, of these the first sorted."""
    return sorted(cells, key=lambda cell: (-number_at(grid, cell), cell))


def first_unsafe(grid, hidden, secret, width):
    """Tell the first secret cell that is not hidden or whose reach is too small, None where there is none."""
    for cell in secret:
        if cell not in hidden or reach_width(grid, hidden, cell) < width:
            return cell
    return None


def reach_width(grid, hidden, cell):
    """Tell how far the least and the greatest number of a hidden cell are apart."""
    return most_flow(grid, hidden, cell).number_now() - least_flow(grid, hidden, cell).number_now()
