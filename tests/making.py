"""Forms and answers made by a maker that makes the same ones each time it begins with the same seed."""

import random

from skiphall.conds import Above, Below, Both, Either, Has, Is, Not
from skiphall.forms import Check, Form, Number, One, Rounds, Section, Some

OPTIONS = ("x", "y", "z")
NO_ANSWERS = (None, True, False, "nothing", -9, 99, ("x", "x"), ("z", "x"), ("nothing",), ["x"], [], "")


class Maker:
    def __init__(self, seed):
        self.chance = random.Random(seed)
        self.many = 0

    def form(self):
        """A form that is not refused, of few rows."""
        self.many = 0
        return Form(self.rows([], 0, False))

    def rows(self, seen, depth, inside):
        """Rows behind the questions seen; those that can be seen behind them are put to these."""
        made = []
        for times in range(self.chance.randint(1, 4)):
            made.append(self.row(seen, depth, inside))
        return made

    def row(self, seen, depth, inside):
        kinds = [self.one, self.some, self.number]
        if seen:
            kinds.append(self.check)
        kind = self.chance.choice(kinds)
        where = self.perhaps(seen)
        counts = [row for row in seen if isinstance(row, Number) and row.low >= 0]
        if depth < 2 and self.chance.random() < 0.4:
            if counts and not inside:
                count = self.chance.choice(counts).name
                return Rounds(count, self.rows(list(seen), depth + 1, True), where=where)
            return Section(self.rows(seen, depth + 1, inside), where=where)
        return kind(seen, where)

    def name(self):
        self.many += 1
        return "q" + str(self.many)

    def one(self, seen, where):
        return self.asked(seen, One(self.name(), OPTIONS, where=where))

    def some(self, seen, where):
        return self.asked(seen, Some(self.name(), OPTIONS, where=where))

    def number(self, seen, where):
        low = self.chance.choice((0, 0, 0, -2))
        return self.asked(seen, Number(self.name(), low, self.chance.randint(2, 4), where=where))

    def check(self, seen, where):
        return Check(self.name(), self.condition(seen, 3), where=where)

    def asked(self, seen, question):
        seen.append(question)
        return question

    def perhaps(self, seen):
        """A condition over the questions seen, or None."""
        if seen and self.chance.random() < 0.4:
            return self.condition(seen, 3)
        return None

    def condition(self, seen, depth):
        kind = self.chance.choice((Not, Both, Either, None, None))
        if depth == 0 or kind is None:
            return self.simple(self.chance.choice(seen))
        if kind is Not:
            return Not(self.condition(seen, depth - 1))
        return kind(self.condition(seen, depth - 1), self.condition(seen, depth - 1))

    def simple(self, question):
        if isinstance(question, One):
            return Is(question.name, self.chance.choice(OPTIONS))
        if isinstance(question, Some):
            return Has(question.name, self.chance.choice(OPTIONS))
        return self.chance.choice((Above, Below))(question.name, self.chance.randint(-1, 4))

    def answers(self, form):
        """Answers of which few lack and few are none."""
        made = {}
        for name in form.names():
            for k in range(0, 6):
                luck = self.chance.random()
                if luck < 0.9:
                    made[(name, k)] = self.answer(form.question(name))
                elif luck < 0.93:
                    made[(name, k)] = self.chance.choice(NO_ANSWERS)
        return made

    def answer(self, question):
        if isinstance(question, One):
            return self.chance.choice(OPTIONS)
        if isinstance(question, Some):
            return tuple(option for option in OPTIONS if self.chance.random() < 0.5)
        return self.chance.randint(question.low, question.high)
