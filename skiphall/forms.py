"""Forms: the rows of which a form is made, and what a form refuses.

A row refuses nothing by itself: the form looks through all its rows, so that
of several things amiss the first one is told.
"""

from skiphall.conds import Has, Is, simple_ones
from skiphall.errors import BadCount, NoFit, NoQuestion, Twice
from skiphall.names import refuse_no_name, refuse_twice

MOST_ROWS = 40
MOST_OPTIONS_OF_ONE = 6
MOST_OPTIONS_OF_SOME = 4
MOST_ROUNDS = 4


class Row:
    """What a form is made of."""


class One(Row):
    """A question that is answered by one of its options."""

    def __init__(self, name, options, *, where=None):
        self.name = name
        self.options = tuple(options)
        self.where = where

    def __eq__(self, other):
        return (
            isinstance(other, One)
            and self.name == other.name
            and self.options == other.options
            and self.where == other.where
        )


class Some(Row):
    """A question that is answered by some of its options, perhaps by none."""

    def __init__(self, name, options, *, where=None):
        self.name = name
        self.options = tuple(options)
        self.where = where

    def __eq__(self, other):
        return (
            isinstance(other, Some)
            and self.name == other.name
            and self.options == other.options
            and self.where == other.where
        )


class Number(Row):
    """A question that is answered by a number from low to high."""

    def __init__(self, name, low, high, *, where=None):
        self.name = name
        self.low = low
        self.high = high
        self.where = where

    def __eq__(self, other):
        return (
            isinstance(other, Number)
            and self.name == other.name
            and self.low == other.low
            and self.high == other.high
            and self.where == other.where
        )


class Check(Row):
    """No question: a condition that must hold."""

    def __init__(self, name, must, *, where=None):
        self.name = name
        self.must = must
        self.where = where

    def __eq__(self, other):
        return (
            isinstance(other, Check)
            and self.name == other.name
            and self.must == other.must
            and self.where == other.where
        )


class Section(Row):
    """Rows that are gone through by turns."""

    def __init__(self, rows, *, where=None):
        self.rows = tuple(rows)
        self.where = where

    def __eq__(self, other):
        return isinstance(other, Section) and self.rows == other.rows and self.where == other.where


class Rounds(Row):
    """Rows that are gone through as often as the Number that count names is answered."""

    def __init__(self, count, rows, *, where=None):
        self.count = count
        self.rows = tuple(rows)
        self.where = where

    def __eq__(self, other):
        return (
            isinstance(other, Rounds)
            and self.count == other.count
            and self.rows == other.rows
            and self.where == other.where
        )


class Form:
    """Rows of which each speaks only of questions ahead of it."""

    def __init__(self, rows):
        self.rows = tuple(rows)
        laid = []
        lay_out(self.rows, None, laid)
        if not 1 <= len(laid) <= MOST_ROWS:
            raise BadCount("rows", len(laid))
        check_rows(laid)
        self.questions = {row.name: row for row, around in laid if is_question(row)}
        self.repeated = {row.name: True for row, around in laid if is_question(row) and around is not None}

    def __eq__(self, other):
        return isinstance(other, Form) and self.rows == other.rows

    def outline(self):
        """List the rows; those within a row stand in it alone."""
        return list(self.rows)

    def names(self):
        """List the names of the questions as they stand."""
        return list(self.questions)

    def question(self, name):
        """Tell the question of this name."""
        if name not in self.questions:
            raise NoQuestion(name)
        return self.questions[name]

    def in_rounds(self, name):
        """Tell whether a question of this name stands in a Rounds."""
        return name in self.repeated


def is_question(row):
    """Tell whether a row is a question."""
    return isinstance(row, (One, Some, Number))


def is_named(row):
    """Tell whether a row has a name of its own."""
    return is_question(row) or isinstance(row, Check)


def lay_out(rows, around, laid):
    """Append to laid each row with the place of the Rounds around it, those within a row behind it.

    A Rounds is known by its place among all rows, as two of them may be alike.
    """
    for row in rows:
        place = len(laid)
        laid.append((row, around))
        if isinstance(row, Section):
            lay_out(row.rows, around, laid)
        if isinstance(row, Rounds):
            lay_out(row.rows, place, laid)


def check_rows(laid):
    """Refuse the first thing amiss in rows that are laid out."""
    ahead = {}
    for row, around in laid:
        check_row(row, around, ahead)
        if is_named(row):
            ahead[row.name] = (row, around)


def check_row(row, around, ahead):
    """Refuse the first thing amiss in a row; ahead has the named rows ahead of it."""
    check_name(row, ahead)
    check_options(row)
    check_bounds(row)
    check_inner_rows(row, around)
    check_count(row, around, ahead)
    check_conditions(row, around, ahead)


def check_name(row, ahead):
    """Refuse a row's own name where it is none, or stands ahead."""
    if not is_named(row):
        return
    refuse_no_name(row.name)
    if row.name in ahead:
        raise Twice(row.name)


def check_options(row):
    """Refuse the options of a One or a Some."""
    if isinstance(row, One):
        refuse_options(row.options, MOST_OPTIONS_OF_ONE)
    if isinstance(row, Some):
        refuse_options(row.options, MOST_OPTIONS_OF_SOME)


def refuse_options(options, most):
    """Refuse options that are too few, more than most, no names or alike."""
    if not 1 <= len(options) <= most:
        raise BadCount("options", len(options))
    for option in options:
        refuse_no_name(option)
    refuse_twice(options)


def check_bounds(row):
    """Refuse a Number that no answer fits."""
    if isinstance(row, Number) and row.low > row.high:
        raise BadCount("bounds", row.high)


def check_inner_rows(row, around):
    """Refuse a Section or a Rounds without rows, then a Rounds that stands in a Rounds."""
    if isinstance(row, (Section, Rounds)) and len(row.rows) == 0:
        raise BadCount("rows", 0)
    if isinstance(row, Rounds) and around is not None:
        raise BadCount("rounds", 2)


def check_count(row, around, ahead):
    """Refuse a Rounds whose count is no Number ahead, or one of too wide bounds."""
    if not isinstance(row, Rounds):
        return
    question = question_ahead(row.count, around, ahead)
    if not isinstance(question, Number) or question.low < 0 or question.high > MOST_ROUNDS:
        raise NoFit(question.name)


def check_conditions(row, around, ahead):
    """Refuse the first simple condition of a row that speaks of what it cannot speak of."""
    for condition in conditions_of(row):
        question = question_ahead(condition.name, around, ahead)
        if not suits(condition, question):
            raise NoFit(question.name)


def conditions_of(row):
    """List the simple conditions of a row: those of where, then those of must."""
    conditions = []
    if row.where is not None:
        conditions.extend(simple_ones(row.where))
    if isinstance(row, Check):
        conditions.extend(simple_ones(row.must))
    return conditions


def question_ahead(name, around, ahead):
    """Tell the question ahead of a row of which it may speak by this name."""
    if name not in ahead:
        raise NoQuestion(name)
    question, rounds = ahead[name]
    if not is_question(question):
        raise NoQuestion(name)
    if rounds is not None and rounds != around:
        raise NoQuestion(name)
    return question


def suits(condition, question):
    """Tell whether a question is of the kind of which a simple condition speaks, and has its option."""
    if isinstance(condition, Is):
        return isinstance(question, One) and condition.option in question.options
    if isinstance(condition, Has):
        return isinstance(question, Some) and condition.option in question.options
    return isinstance(question, Number)
