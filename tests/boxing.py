"""Events and boxes that several tests ask about."""

import random

from skiphall.boxes import Box
from skiphall.conds import Is, Not
from skiphall.editions import Edition
from skiphall.errors import HallError
from skiphall.forms import Form, Number, One
from tests.making import Maker


def edition(number, *rows, calls=()):
    """The event of an edition of these rows."""
    return ("edition", Edition(number, Form(rows), calls=calls))


def sheet(who, number, by, **answers):
    """The event of a sheet with answers outside of rounds."""
    return ("sheet", who, number, by, {(name, 0): answer for name, answer in answers.items()})


def box_of(*events):
    """A box that took these events, in this order."""
    box = Box()
    for event in events:
        box.take(event)
    return box


def all_told(box):
    """All that a box tells, in the order in which it tells it."""
    try:
        form = box.form_now().outline()
    except HallError as refusal:
        form = refusal.told()
    people = box.people()
    return {
        "edition": box.edition(),
        "form": form,
        "events": box.events(),
        "clashes": box.clashes(),
        "people": people,
        "stands": [box.stands(who) for who in people + ["nobody"]],
        "counted": [(who, list(answers.items())) for who, answers in box.all_counted().items()],
    }


def made_events(seed, many):
    """Events of few people and numbers, by up to four editions, that are alike or clash now and then."""
    chance = random.Random(seed)
    maker = Maker(seed)
    forms = [maker.form() for times in range(4)]
    events = []
    for number, form in enumerate(forms, 1):
        if chance.random() < 0.8:
            events.append(("edition", Edition(number, form, calls=made_calls(chance, number, forms))))
    sheets = [maker.answers(chance.choice(forms)) for times in range(6)]
    for times in range(many):
        who = chance.choice(("ann", "bob", "cid", "dot", "eve"))
        if chance.random() < 0.15:
            events.append(("back", who, chance.randint(1, 3)))
        else:
            events.append(("sheet", who, chance.randint(1, 3), chance.randint(1, 5), chance.choice(sheets)))
    chance.shuffle(events)
    return events


def made_calls(chance, number, forms):
    """Calls of one or no question of the form of this number."""
    if number == 1 or chance.random() < 0.5:
        return ()
    return [(chance.choice(("q1", "q2", "q9")), chance.choice(forms[number - 1].names()))]


def polled_events(seed, many):
    """Events of sheets that answer two Ones, first and second, most of them so that they are counted."""
    chance = random.Random(seed)
    first = One("first", ["a", "b", "c", "d"][:chance.randint(1, 4)])
    where = Not(Is("first", first.options[-1])) if len(first.options) > 2 else None
    second = One("second", ["a", "b", "c", "d"][:chance.randint(1, 4)], where=where)
    events = [edition(1, first, second), edition(2, first, second, PET)]
    for at in range(many):
        answers = {"first": chance.choice(first.options), "second": chance.choice(second.options), "pet": "cat"}
        if chance.random() < 0.15:
            answers.pop(chance.choice(("first", "second", "pet")))
        who = "w" + str(chance.randint(1, many))
        events.append(sheet(who, chance.randint(1, 3), chance.randint(1, 2), **answers))
        if chance.random() < 0.1:
            events.append(("back", who, chance.randint(1, 3)))
    chance.shuffle(events)
    return events


PLACE = One("place", ["house", "flat", "tent"])
PET = One("pet", ["cat", "dog"])
AGE = Number("age", 0, 120)
