"""Walks: how far the answers lead through a form, and which of them count."""

from skiphall.answers import is_answer
from skiphall.conds import Above, Both, Either, Has, Is, Not
from skiphall.forms import Check, Section, is_question


class Walk:
    """Where a walk ended, what was asked on it, and the answers that count."""

    def __init__(self, word, spot, asked, counted):
        self.word = word
        self.spot = spot
        self.asked = asked
        self.counted = counted


class Road:
    """A walk while it is gone: what was asked so far, and the answers that count so far."""

    def __init__(self, form, answers):
        self.form = form
        self.answers = answers
        self.asked = []
        self.counted = {}


def walked(form, answers):
    """Tell the Walk of a form by answers."""
    road = Road(form, answers)
    end = end_in_rows(road, form.rows, 0)
    if end is None:
        return Walk("done", None, road.asked, road.counted)
    word, spot = end
    return Walk(word, spot, road.asked, road.counted)


def end_in_rows(road, rows, k):
    """Go through rows in round k; tell the word and the spot of the walk's end, None where it goes on."""
    for row in rows:
        if row.where is None or holds(row.where, road, k):
            end = end_at_row(road, row, k)
            if end is not None:
                return end
    return None


def end_at_row(road, row, k):
    """Go through a row that is come to."""
    if is_question(row):
        return end_at_question(road, row, k)
    if isinstance(row, Check):
        return None if holds(row.must, road, k) else ("barred", (row.name, k))
    if isinstance(row, Section):
        return end_in_rows(road, row.rows, k)
    return end_in_rounds(road, row)


def end_at_question(road, question, k):
    """Ask a question, and count its answer where there is one."""
    spot = (question.name, k)
    road.asked.append(spot)
    answer = road.answers.get(spot)
    if not is_answer(question, answer):
        return ("open", spot)
    road.counted[spot] = answer
    return None


def end_in_rounds(road, rounds):
    """Go through the rows of a Rounds, once for each number up to the count's answer.

    The count stands outside of rounds, as no Rounds stands in another one.
    """
    times = road.counted.get((rounds.count, 0), 0)
    for k in range(1, times + 1):
        end = end_in_rows(road, rounds.rows, k)
        if end is not None:
            return end
    return None


def holds(condition, road, k):
    """Tell whether a condition of a row in round k holds."""
    if isinstance(condition, Not):
        return not holds(condition.inner, road, k)
    if isinstance(condition, Both):
        return holds(condition.left, road, k) and holds(condition.right, road, k)
    if isinstance(condition, Either):
        return holds(condition.left, road, k) or holds(condition.right, road, k)
    return holds_of(condition, spoken_answer(road, condition.name, k))


def spoken_answer(road, name, k):
    """Tell the counted answer of which a row in round k speaks by this name; None where it is not asked."""
    if road.form.in_rounds(name):
        return road.counted.get((name, k))
    return road.counted.get((name, 0))


def holds_of(condition, answer):
    """Tell whether a simple condition holds of an answer, None for a question that is not asked."""
    if answer is None:
        return False
    if isinstance(condition, Is):
        return answer == condition.option
    if isinstance(condition, Has):
        return condition.option in answer
    if isinstance(condition, Above):
        return answer > condition.number
    return answer < condition.number
