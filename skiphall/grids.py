"""Grids: how many of the counted have which answers of two questions, and who they are."""

from skiphall.errors import NoCell, NoFit, Twice
from skiphall.forms import One

MOST_OPTIONS = 4


def grid_of(box, first, second):
    """Tell the grid of two questions, its sums behind its cells of options."""
    rows, columns = options_of_both(box, first, second)
    pairs = list(pairs_counted(box, first, second).values())
    grid = []
    for option in rows:
        grid.append([pairs.count((option, other)) for other in columns])
    return with_sums(grid)


def with_sums(grid):
    """Tell the cells of options with the sums of their rows and columns."""
    summed = [row + [sum(row)] for row in grid]
    last = [sum([row[column] for row in summed]) for column in range(len(summed[0]))]
    return summed + [last]


def senders(box, first, second, *, row, column):
    """List who are counted in a cell."""
    rows, columns = options_of_both(box, first, second)
    if not (0 <= row <= len(rows) and 0 <= column <= len(columns)):
        raise NoCell(row, column)
    wanted_first = options_summed(rows, row)
    wanted_second = options_summed(columns, column)
    pairs = pairs_counted(box, first, second)
    return sorted([who for who in pairs if pairs[who][0] in wanted_first and pairs[who][1] in wanted_second])


def options_summed(options, place):
    """List the options that are counted at a place: one of them, or all where the sum stands."""
    if place == len(options):
        return options
    return [options[place]]


def options_of_both(box, first, second):
    """Tell the options of both questions; refuse those of which there is no grid."""
    form = box.form_now()
    questions = [form.question(name) for name in (first, second)]
    for question in questions:
        if not is_for_grids(form, question):
            raise NoFit(question.name)
    if first == second:
        raise Twice(first)
    return list(questions[0].options), list(questions[1].options)


def is_for_grids(form, question):
    """Tell whether there are grids of a question."""
    return isinstance(question, One) and not form.in_rounds(question.name) and len(question.options) <= MOST_OPTIONS


def pairs_counted(box, first, second):
    """Tell both counted answers of all who have them."""
    counted = box.all_counted()
    spots = ((first, 0), (second, 0))
    pairs = {}
    for who in counted:
        answers = counted[who]
        if spots[0] in answers and spots[1] in answers:
            pairs[who] = (answers[spots[0]], answers[spots[1]])
    return pairs
