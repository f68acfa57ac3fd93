"""Fences: how near a hidden cell can be reckoned, shown by tables that fit and by fences."""

from skiphall.cells import arc_of, cells_of, number_at, read_hidden, refuse_shown
from skiphall.flows import least_flow, most_flow, ways_from

NO_FENCE = ((), ())


def fits(grid, hidden, table):
    """Tell whether a table fits a grid and what is hidden."""
    cells = read_hidden(grid, hidden)
    if not is_as_wide(grid, table):
        return False
    if any([number < 0 for row in table for number in row]) or not has_right_sums(table):
        return False
    shown = [cell for cell in cells_of(grid) if cell not in cells]
    return all([number_at(table, cell) == number_at(grid, cell) for cell in shown])


def is_as_wide(grid, table):
    """Tell whether a table has as many rows and columns as a grid."""
    return [len(row) for row in table] == [len(row) for row in grid]


def has_right_sums(table):
    """Tell whether the last number of each row and column is the sum of the others."""
    columns = [[row[at] for row in table] for at in range(len(table[0]))]
    return all([line[-1] == sum(line[:-1]) for line in list(table) + columns])


def reach(grid, hidden, *, cell):
    """Tell the least and the greatest number of a hidden cell, and a table that fits with each."""
    cells = read_hidden(grid, hidden)
    refuse_shown(grid, cells, cell)
    least = least_flow(grid, cells, cell)
    most = most_flow(grid, cells, cell)
    return (least.number_now(), most.number_now(), least.numbers, most.numbers)


def bound(grid, hidden, *, cell, fence):
    """Tell what a fence shows of a hidden cell: a number it is at least, and one it is at most."""
    cells = read_hidden(grid, hidden)
    refuse_shown(grid, cells, cell)
    coming = coming_in(grid, fence)
    going = going_out(grid, fence)
    if cell not in coming:
        return (None, None)
    rest = sum_shown(grid, cells, going) - sum_shown(grid, cells, coming)
    other_comes = any([other in cells for other in coming if other != cell])
    one_goes = any([other in cells for other in going])
    return (None if other_comes else rest, None if one_goes else rest)


def coming_in(grid, fence):
    """List the cells whose goal alone is in a fence."""
    arcs = [(cell, arc_of(grid, cell)) for cell in cells_of(grid)]
    return [cell for cell, (start, goal) in arcs if is_in(fence, goal) and not is_in(fence, start)]


def going_out(grid, fence):
    """List the cells whose start alone is in a fence."""
    arcs = [(cell, arc_of(grid, cell)) for cell in cells_of(grid)]
    return [cell for cell, (start, goal) in arcs if is_in(fence, start) and not is_in(fence, goal)]


def is_in(fence, place):
    """Tell whether a row or a column is in a fence."""
    rows, columns = fence
    kind, number = place
    return number in (rows if kind == "row" else columns)


def sum_shown(grid, hidden, cells):
    """Tell the sum of those of the cells that are shown."""
    return sum([number_at(grid, cell) for cell in cells if cell not in hidden])


def fences(grid, hidden, *, cell):
    """Tell a fence that shows the least number of a hidden cell, and one that shows its greatest.

    From the cell's start a flow with the least number has no way left into the first one;
    from its goal a flow with the greatest number has no way left out of the second one.
    """
    cells = read_hidden(grid, hidden)
    refuse_shown(grid, cells, cell)
    start, goal = arc_of(grid, cell)
    least = least_flow(grid, cells, cell)
    most = most_flow(grid, cells, cell)
    first = NO_FENCE
    if least.number_now() > 0:
        come_to = ways_from(least, start)
        first = fence_of([place for place in places_of(grid) if place not in come_to])
    return (first, fence_of(list(ways_from(most, goal))))


def places_of(grid):
    """List the rows and columns of a grid."""
    rows = [("row", number) for number in range(len(grid))]
    return rows + [("column", number) for number in range(len(grid[0]))]


def fence_of(places):
    """Tell the fence with just these rows and columns in it."""
    rows = sorted([number for kind, number in places if kind == "row"])
    columns = sorted([number for kind, number in places if kind == "column"])
    return (tuple(rows), tuple(columns))
