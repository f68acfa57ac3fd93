"""The rows of a form as texts: how they are written and read."""

from skiphall.condtexts import condition_text, read_condition
from skiphall.errors import BadRow
from skiphall.forms import Check, Form, Number, One, Rounds, Section, Some
from skiphall.parts import Parts

WORDS = ("one", "some", "number", "check", "section", "rounds")


def form_rows(form):
    """List the texts of a form's rows."""
    texts = []
    write_rows(form.rows, texts)
    return texts


def write_rows(rows, texts):
    """Append to texts those of rows, those within a row and an end behind it."""
    for row in rows:
        texts.append(head_text(row) + where_text(row))
        if isinstance(row, (Section, Rounds)):
            write_rows(row.rows, texts)
            texts.append("end")


def head_text(row):
    """Write a row without its where."""
    if isinstance(row, One):
        return f"one {row.name} of " + " ".join(row.options)
    if isinstance(row, Some):
        return f"some {row.name} of " + " ".join(row.options)
    if isinstance(row, Number):
        return f"number {row.name} {row.low} {row.high}"
    if isinstance(row, Check):
        return f"check {row.name} must {condition_text(row.must)}"
    if isinstance(row, Rounds):
        return f"rounds {row.count}"
    return "section"


def where_text(row):
    """Write what stands behind a row's head."""
    if row.where is None:
        return ""
    return " where " + condition_text(row.where)


class Begun:
    """A Section or a Rounds of which rows are still read; no count where it is no Rounds."""

    def __init__(self, count, where):
        self.count = count
        self.where = where
        self.within = []


def read_form(rows):
    """Read the form of these rows.

    What is read stands in a list, the outermost rows first, those of the row that was begun last behind.
    """
    begun = [Begun(None, None)]
    for at, text in enumerate(rows):
        read_row(Parts(at, text), begun)
    if len(begun) > 1:
        raise BadRow(len(rows), 0)
    return Form(begun[0].within)


def read_row(parts, begun):
    """Read one row into what was begun last."""
    word = parts.take_word(words_ahead(begun))
    if word == "end":
        parts.finish()
        ended = begun.pop()
        begun[-1].within.append(made_of(ended))
    elif word == "section":
        begun.append(Begun(None, take_where(parts)))
    elif word == "rounds":
        count = parts.take_name()
        begun.append(Begun(count, take_where(parts)))
    else:
        read = READERS[word]
        begun[-1].within.append(read(parts))


def words_ahead(begun):
    """Tell with which words a row may begin; an end needs a row that was begun."""
    if len(begun) > 1:
        return WORDS + ("end",)
    return WORDS


def made_of(ended):
    """Tell the row that was begun, now that all its rows are read."""
    if ended.count is None:
        return Section(ended.within, where=ended.where)
    return Rounds(ended.count, ended.within, where=ended.where)


def read_one(parts):
    """Read a One behind its word."""
    name = parts.take_name()
    options = take_options(parts)
    return One(name, options, where=take_where(parts))


def read_some(parts):
    """Read a Some behind its word."""
    name = parts.take_name()
    options = take_options(parts)
    return Some(name, options, where=take_where(parts))


def read_number(parts):
    """Read a Number behind its word."""
    name = parts.take_name()
    low = parts.take_number()
    high = parts.take_number()
    return Number(name, low, high, where=take_where(parts))


def read_check(parts):
    """Read a Check behind its word."""
    name = parts.take_name()
    parts.take_word(("must",))
    must = read_condition(parts)
    return Check(name, must, where=take_where(parts))


def take_options(parts):
    """Take the options of a question, one of them at least."""
    parts.take_word(("of",))
    options = [parts.take_name()]
    while not parts.ended() and parts.ahead() != "where":
        options.append(parts.take_name())
    return options


def take_where(parts):
    """Take the condition behind where, None where the row has none; nothing can stand behind it."""
    if parts.ended():
        return None
    parts.take_word(("where",))
    where = read_condition(parts)
    parts.finish()
    return where


READERS = {"one": read_one, "some": read_some, "number": read_number, "check": read_check}
