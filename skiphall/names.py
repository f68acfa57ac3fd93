"""Names: what is one, and how texts that are none, or stand twice, are refused."""

from skiphall.errors import NoName, Twice
from skiphall.figures import FIGURES

LETTERS = "abcdefghijklmnopqrstuvwxyz"
LONGEST_NAME = 8


def is_name(text):
    """Tell whether a text is a name: 1 to 8 small letters and figures, a letter ahead."""
    if not 1 <= len(text) <= LONGEST_NAME:
        return False
    return text[0] in LETTERS and all([sign in LETTERS or sign in FIGURES for sign in text])


def refuse_no_name(text):
    """Refuse a text that is no name."""
    if not is_name(text):
        raise NoName(text)


def refuse_twice(names):
    """Refuse the first of the names that stands ahead of it."""
    seen = set()
    for name in names:
        if name in seen:
            raise Twice(name)
        seen.add(name)
