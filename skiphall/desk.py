"""Desks: a book that is worked by rows, and answers each of them with rows."""

from skiphall.book import Book
from skiphall.editions import Edition
from skiphall.errors import BadRow, HallError
from skiphall.formtexts import form_rows, read_form
from skiphall.parts import Parts
from skiphall.texts import answers_row, read_answers, spot_text

MOST_DIGITS = 6
BETWEEN_ROWS = " ; "
SUM_NAME = "all"
HIDDEN = "?"


def take_edition(book, parts):
    """Take an edition without calls."""
    number = parts.take_count(MOST_DIGITS)
    form = read_form(parts.take_rest().split(BETWEEN_ROWS))
    book.take(("edition", Edition(number, form)))
    return ["done"]


def take_called(book, parts):
    """Take an edition with calls."""
    number = parts.take_count(MOST_DIGITS)
    calls = take_calls(parts)
    form = read_form(parts.take_rest().split(BETWEEN_ROWS))
    book.take(("edition", Edition(number, form, calls=calls)))
    return ["done"]


def take_calls(parts):
    """Take a part with pairs of texts; whether these are names is told by the Edition."""
    place = parts.place
    calls = []
    for text in parts.take_text().split(","):
        pair = text.split(".")
        if len(pair) != 2:
            raise BadRow(parts.row, place)
        calls.append((pair[0], pair[1]))
    return calls


def take_sheet(book, parts):
    """Take a sheet."""
    who = parts.take_text()
    number = parts.take_count(MOST_DIGITS)
    edition = parts.take_count(MOST_DIGITS)
    answers = read_answers(parts.take_rest())
    book.take(("sheet", who, number, edition, answers))
    return ["done"]


def take_taken(book, parts):
    """Take sheets back."""
    who = parts.take_text()
    number = parts.take_count(MOST_DIGITS)
    parts.finish()
    book.take(("back", who, number))
    return ["done"]


def tell_table(book, parts):
    """Tell a table of two questions."""
    name = parts.take_text()
    first = parts.take_text()
    second = parts.take_text()
    parts.finish()
    return table_rows(book.tell(name, first, second))


def retell_table(book, parts):
    """Tell a table anew."""
    return table_rows(book.retell(take_last(parts)))


def drop_table(book, parts):
    """Keep a table no longer."""
    book.drop(take_last(parts))
    return ["done"]


def take_back(book, parts):
    """Take the last deed back."""
    parts.finish()
    book.back()
    return ["done"]


def stand_rows(book, parts):
    """Tell how one stands."""
    stand = book.box().stands(take_last(parts))
    if stand[0] == "counted":
        return ["counted " + answers_row(stand[1])]
    if stand[0] == "ahead":
        return [f"ahead {stand[1]}"]
    if stand[0] in ("open", "barred"):
        return [f"{stand[0]} {spot_text(stand[1])}"]
    return [stand[0]]


def people_rows(book, parts):
    """List all of whom an event came."""
    parts.finish()
    return book.box().people()


def names_rows(book, parts):
    """List the names of the tables."""
    parts.finish()
    return book.names()


def stale_rows(book, parts):
    """List the names of the tables that would be told otherwise now."""
    parts.finish()
    return book.stale()


def clashes_rows(book, parts):
    """List of what several unlike sheets came."""
    parts.finish()
    return [f"{who} {number}" for who, number in book.box().clashes()]


def form_now_rows(book, parts):
    """List the rows of the form counted in."""
    parts.finish()
    return form_rows(book.box().form_now())


def number_rows(book, parts):
    """Tell the number of the edition counted in."""
    parts.finish()
    return [str(book.box().edition())]


def take_last(parts):
    """Take the one part that is due, behind which nothing can stand."""
    text = parts.take_text()
    parts.finish()
    return text


def table_rows(table):
    """Write a table: its columns' names, then a row for each of its rows."""
    rows = [" ".join(table.columns + [SUM_NAME])]
    for name, numbers in zip(table.rows + [SUM_NAME], table.shown):
        rows.append(" ".join([name] + [number_text(number) for number in numbers]))
    return rows


def number_text(number):
    """Write a number of a table, which may be hidden."""
    if number is None:
        return HIDDEN
    return str(number)


# By the first word of a row: what reads the rest of it, does what it says, and answers.
READERS = {
    "edition": take_edition,
    "called": take_called,
    "sheet": take_sheet,
    "taken": take_taken,
    "table": tell_table,
    "retell": retell_table,
    "drop": drop_table,
    "back": take_back,
    "stands": stand_rows,
    "people": people_rows,
    "names": names_rows,
    "stale": stale_rows,
    "clashes": clashes_rows,
    "form": form_now_rows,
    "number": number_rows,
}


class Desk:
    """A book, and what its rows tell."""

    def __init__(self, *, few=3, width=2):
        self.book = Book(few=few, width=width)

    def tell(self, row):
        """Answer a row; what is refused is answered, too."""
        try:
            return answered(self.book, row)
        except HallError as refusal:
            return [refusal.told()]


def answered(book, row):
    """Answer a row that is not refused."""
    parts = Parts(0, row)
    word = parts.take_text()
    if word not in READERS:
        raise BadRow(0, 0)
    answer = READERS[word]
    return answer(book, parts)
