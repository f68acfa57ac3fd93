"""Editions of a form, and how answers are led from one to the next."""

from skiphall.answers import is_answer
from skiphall.errors import BadCount, NoQuestion
from skiphall.names import refuse_no_name, refuse_twice


class Edition:
    """A form by its number, and what it calls the questions of the edition ahead."""

    def __init__(self, number, form, *, calls=()):
        pairs = tuple([(old, new) for old, new in calls])
        refuse_counts(number, pairs)
        refuse_calls(pairs, form)
        self.number = number
        self.form = form
        self.calls = pairs

    def __eq__(self, other):
        return (
            isinstance(other, Edition)
            and self.number == other.number
            and self.form == other.form
            and self.calls == other.calls
        )


def refuse_counts(number, calls):
    """Refuse a number below 1, then calls where no edition stands ahead."""
    if number < 1:
        raise BadCount("edition", number)
    if number == 1 and len(calls) > 0:
        raise BadCount("calls", len(calls))


def refuse_calls(calls, form):
    """Refuse calls with what is no name, then with a name twice, then of no question of the form."""
    for old, new in calls:
        refuse_no_name(old)
        refuse_no_name(new)
    refuse_twice([old for old, new in calls])
    refuse_twice([new for old, new in calls])
    for old, new in calls:
        if not has_question(form, new):
            raise NoQuestion(new)


def has_question(form, name):
    """Tell whether a form has a question of this name."""
    return name in form.names()


def led(answers, edition):
    """Tell answers of the edition ahead as they are in this one."""
    renamed = called_anew(answers, edition.calls)
    return {spot: renamed[spot] for spot in renamed if belongs(spot, renamed[spot], edition.form)}


def led_over(answers, editions):
    """Tell answers as they are when each of the editions, in order, has led them."""
    told = {spot: answers[spot] for spot in answers}
    for edition in editions:
        told = led(told, edition)
    return told


def called_anew(answers, calls):
    """Tell answers at their new names, without those whose name was given to another question."""
    called = {old: new for old, new in calls}
    given = {new for old, new in calls}
    told = {}
    for spot in answers:
        name, k = spot
        if name in called:
            told[(called[name], k)] = answers[spot]
        elif name not in given:
            told[spot] = answers[spot]
    return told


def belongs(spot, answer, form):
    """Tell whether an answer fits the form's question at its spot, in rounds or outside of them."""
    name, k = spot
    if not has_question(form, name):
        return False
    return form.in_rounds(name) == (k != 0) and is_answer(form.question(name), answer)
