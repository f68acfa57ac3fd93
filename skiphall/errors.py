"""The refusals: one class for each kind of failure, all under HallError.

Each class tells itself by a text of its own: no class stands under another one
but under the base, and none leans on the telling of the base.
"""


class HallError(ValueError):
    """What all refusals are."""

    def told(self):
        """Tell the refusal as a row."""
        return "refused hallerror"


class BadCount(HallError):
    """There are too few or too many of something, or a number is out of its bounds."""

    def __init__(self, what, count):
        self.what = what
        self.count = count

    def told(self):
        """Tell the refusal as a row."""
        return "refused badcount"


class NoName(HallError):
    """A text stands where a name is wanted, and is none."""

    def __init__(self, name):
        self.name = name

    def told(self):
        """Tell the refusal as a row."""
        return "refused noname"


class Twice(HallError):
    """A name stands a second time where it may stand once."""

    def __init__(self, name):
        self.name = name

    def told(self):
        """Tell the refusal as a row."""
        return "refused twice"


class NoQuestion(HallError):
    """A text names no question that can be spoken of there."""

    def __init__(self, name):
        self.name = name

    def told(self):
        """Tell the refusal as a row."""
        return "refused noquestion"


class NoFit(HallError):
    """What is named is of another kind than is wanted."""

    def __init__(self, name):
        self.name = name

    def told(self):
        """Tell the refusal as a row."""
        return "refused nofit"


class NotAsked(HallError):
    """A spot is not asked, or nothing is kept at it."""

    def __init__(self, spot):
        self.spot = spot

    def told(self):
        """Tell the refusal as a row."""
        return "refused notasked"


class NoEvent(HallError):
    """A tuple is no event."""

    def __init__(self, word):
        self.word = word

    def told(self):
        """Tell the refusal as a row."""
        return "refused noevent"


class Unlike(HallError):
    """An edition of this number came already, and was another one."""

    def __init__(self, number):
        self.number = number

    def told(self):
        """Tell the refusal as a row."""
        return "refused unlike"


class NoEdition(HallError):
    """No edition is counted in."""

    def told(self):
        """Tell the refusal as a row."""
        return "refused noedition"


class NoCell(HallError):
    """There is no such cell, or it cannot be meant."""

    def __init__(self, row, column):
        self.row = row
        self.column = column

    def told(self):
        """Tell the refusal as a row."""
        return "refused nocell"


class Unsafe(HallError):
    """A cell cannot be hidden well enough."""

    def __init__(self, cell):
        self.cell = cell

    def told(self):
        """Tell the refusal as a row."""
        return "refused unsafe"


class NoTable(HallError):
    """No table is kept by this name."""

    def __init__(self, name):
        self.name = name

    def told(self):
        """Tell the refusal as a row."""
        return "refused notable"


class NoBack(HallError):
    """There is nothing to take back."""

    def told(self):
        """Tell the refusal as a row."""
        return "refused noback"


class BadRow(HallError):
    """A part of a row cannot stand where it stands, or a part lacks."""

    def __init__(self, row, place):
        self.row = row
        self.place = place

    def told(self):
        """Tell the refusal as a row."""
        return "refused badrow"
