"""Grids, hidden cells and tables that several tests ask about."""

import itertools
import random


def with_sums(cells):
    """The grid of these cells of options."""
    rows = [list(row) + [sum(row)] for row in cells]
    return rows + [[sum(column) for column in zip(*rows)]]


def all_but_last(grid):
    """All cells of a grid but the last one."""
    return [(row, column) for row in range(len(grid)) for column in range(len(grid[0]))][:-1]


def all_tables(grid, hidden):
    """All tables that fit, found by trying all numbers; the grid is a small one."""
    rows, columns = len(grid) - 1, len(grid[0]) - 1
    choices = []
    for row in range(rows):
        for column in range(columns):
            choices.append(range(grid[-1][-1] + 1) if (row, column) in hidden else [grid[row][column]])
    found = []
    for numbers in itertools.product(*choices):
        table = with_sums([numbers[at * columns:(at + 1) * columns] for at in range(rows)])
        if all(table[row][at] == grid[row][at] for row in range(rows + 1) for at in range(columns + 1)
               if (row, at) not in hidden):
            found.append(table)
    return found


def small_grids(seed, many):
    """Pairs of a small grid and hidden cells of it, perhaps none."""
    chance = random.Random(seed)
    for times in range(many):
        rows, columns = chance.choice(((1, 1), (1, 2), (2, 1), (2, 2), (2, 2), (2, 3), (3, 2)))
        numbers = (0, 0, 1) if rows * columns > 4 else (0, 0, 1, 2, 3)
        grid = with_sums([[chance.choice(numbers) for column in range(columns)] for row in range(rows)])
        share = chance.choice((0.3, 0.6, 0.9))
        yield grid, [cell for cell in all_but_last(grid) if chance.random() < share]


def great_grids(seed, many):
    """Pairs of a grid of up to seven by seven with great numbers, and hidden cells of it."""
    chance = random.Random(seed)
    for times in range(many):
        rows, columns = chance.randint(3, 6), chance.randint(3, 6)
        grid = with_sums([
            [chance.choice((0, 1, 2, 7, chance.randrange(10 ** 40))) for column in range(columns)]
            for row in range(rows)])
        share = chance.choice((0.3, 0.6, 0.9, 1))
        yield grid, [cell for cell in all_but_last(grid) if chance.random() < share]


def as_tuples(rows):
    """The same rows, each a tuple, in a tuple."""
    return tuple(tuple(row) for row in rows)
