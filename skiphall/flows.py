"""Flows: how a table is changed, sums and shown cells kept, until a hidden cell has its least or its greatest number.

What comes into each row and column of a table by arcs is what goes out. So where the
number of one cell is changed, as much must find another way, through the arcs of
other hidden cells: forward, and these get more; or backward, and these get less, but
not less than nought. Where no such way is left, nobody can change the number further.
"""

from skiphall.cells import arc_of, last_cell, number_at


class Flow:
    """A table that fits, and the steps by which the hidden cells but one let it be changed."""

    def __init__(self, grid, hidden, cell):
        self.cell = cell
        self.numbers = [list(row) for row in grid]
        self.steps = steps_of(grid, [other for other in hidden if other != cell])

    def number_now(self):
        """Tell the number in the cell."""
        return number_at(self.numbers, self.cell)

    def change(self, change):
        """Add to the number in the cell."""
        row, column = self.cell
        self.numbers[row][column] += change


def least_flow(grid, hidden, cell):
    """Tell a Flow with the cell's least number."""
    flow = Flow(grid, hidden, cell)
    start, goal = arc_of(grid, cell)
    flow.change(-pushed(flow, start, goal, flow.number_now()))
    return flow


def most_flow(grid, hidden, cell):
    """Tell a Flow with the cell's greatest number; none is above the number in the last cell."""
    flow = Flow(grid, hidden, cell)
    start, goal = arc_of(grid, cell)
    flow.change(pushed(flow, goal, start, number_at(grid, last_cell(grid)) - flow.number_now()))
    return flow


def steps_of(grid, cells):
    """Tell the steps from each row and column: where to, through which cell, and whether it gets more or less."""
    steps = {}
    for cell in cells:
        start, goal = arc_of(grid, cell)
        steps.setdefault(start, []).append((goal, cell, 1))
        steps.setdefault(goal, []).append((start, cell, -1))
    return steps


def pushed(flow, start, goal, most):
    """Push from start to goal what finds a way, but no more than most; tell how much."""
    left = most
    while left > 0:
        came = ways_from(flow, start)
        if goal not in came:
            return most - left
        way = way_to(came, goal)
        lent = [number_at(flow.numbers, cell) for cell, sign in way if sign < 0]
        amount = min([left] + lent)
        for cell, sign in way:
            row, column = cell
            flow.numbers[row][column] += sign * amount
        left -= amount
    return most


def ways_from(flow, start):
    """Tell, for each row and column that can be come to from start, the step by which one comes there.

    The nearest ones are come to first: ways that are as short as can be are few, however great the numbers are.
    """
    came = {start: None}
    waiting = [start]
    at = 0
    while at < len(waiting):
        place = waiting[at]
        at += 1
        for goal, cell, sign in flow.steps.get(place, []):
            if goal not in came and (sign > 0 or number_at(flow.numbers, cell) > 0):
                came[goal] = (place, cell, sign)
                waiting.append(goal)
    return came


def way_to(came, goal):
    """List the cells on the way to a goal that was come to, and whether each gets more or less."""
    way = []
    step = came[goal]
    while step is not None:
        place, cell, sign = step
        way.append((cell, sign))
        step = came[place]
    return way
