"""Books that several tests ask about."""

from skiphall.book import Book
from skiphall.forms import One
from tests.boxing import all_told, edition

LETTERS = "pqrs"


def filler(who, first, second):
    """The event of a sheet with answers to first and second."""
    return ("sheet", who, 1, 1, {("first", 0): first, ("second", 0): second})


def events_with(cells, *rows):
    """Events by which the cells of options of first and second have these numbers."""
    first = One("first", LETTERS[:len(cells)])
    second = One("second", LETTERS[:len(cells[0])])
    events = [edition(1, first, second, *rows)]
    for row, numbers in enumerate(cells):
        for column, number in enumerate(numbers):
            for at in range(number):
                events.append(filler(f"{LETTERS[row]}{LETTERS[column]}{at}", LETTERS[row], LETTERS[column]))
    return events


def book_with(cells, *rows):
    """A book in which the cells of options of first and second have these numbers."""
    book = Book()
    for event in events_with(cells, *rows):
        book.take(event)
    return book


def book_told(book):
    """All that a book tells without a deed."""
    return {
        "box": all_told(book.box()),
        "tables": [(name, vars(book.table(name))) for name in book.names()],
        "stale": book.stale(),
        "many": book.many(),
    }
