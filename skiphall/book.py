"""Books: a box and the tables that are told of it, with deeds that can be taken back."""

from skiphall.boxes import Box
from skiphall.errors import BadCount, HallError, NoBack, NoTable, Twice
from skiphall.hides import Told, refuse_few_and_width, told
from skiphall.names import refuse_no_name

MOST_TABLES = 4


class Book:
    """A box of its own, tables by their names, and the deeds that were done.

    A table stands as a tuple of its two questions and what was told. A deed stands as a pair:
    of the events, None and how many there were ahead of it; of a table, its name and how it
    stood ahead of it, None where there was none.
    """

    def __init__(self, *, few=3, width=2):
        refuse_few_and_width(few, width)
        self.few = few
        self.width = width
        self.held = Box()
        self.tables = {}
        self.deeds = []

    def box(self):
        """Tell a box with the same events."""
        box = Box()
        box.merge(self.held)
        return box

    def take(self, event):
        """Take an event as a box does."""
        ahead = self.held.events()
        self.held.take(event)
        self.note_events(ahead)

    def merge(self, box):
        """Take all events of a box as a box does."""
        ahead = self.held.events()
        self.held.merge(box)
        self.note_events(ahead)

    def note_events(self, ahead):
        """Note a deed where there are more events than there were ahead of it."""
        if self.held.events() > ahead:
            self.deeds.append((None, ahead))

    def tell(self, name, first, second):
        """Tell a table of two questions, and keep it by a name."""
        refuse_no_name(name)
        if name in self.tables:
            raise Twice(name)
        if len(self.tables) >= MOST_TABLES:
            raise BadCount("tables", len(self.tables) + 1)
        return self.keep(name, first, second)

    def names(self):
        """List the names of the tables."""
        return sorted(self.tables)

    def table(self, name):
        """Tell what was told by this name."""
        first, second, kept = self.entry(name)
        return copy_of(kept)

    def stale(self):
        """List the names of the tables that would be told otherwise now, or refused."""
        return [name for name in self.names() if self.is_stale(name)]

    def is_stale(self, name):
        """Tell whether a table would be told otherwise now, or refused."""
        first, second, kept = self.entry(name)
        try:
            now = self.told_now(first, second)
        except HallError:
            return True
        return not is_alike(now, kept)

    def retell(self, name):
        """Tell a table anew."""
        first, second, kept = self.entry(name)
        return self.keep(name, first, second)

    def drop(self, name):
        """Keep a table no longer."""
        self.deeds.append((name, self.entry(name)))
        del self.tables[name]

    def many(self):
        """Tell how many deeds were done and not taken back."""
        return len(self.deeds)

    def back(self):
        """Take the last deed back."""
        if len(self.deeds) == 0:
            raise NoBack()
        name, earlier = self.deeds.pop()
        if name is None:
            self.held.rewind(earlier)
        elif earlier is None:
            del self.tables[name]
        else:
            self.tables[name] = earlier

    def tried(self, event, first, second):
        """Tell the table that would be told if an event were taken."""
        box = self.box()
        box.take(event)
        return told(box, first, second, few=self.few, width=self.width)

    def told_now(self, first, second):
        """Tell a table of two questions by the events that came so far."""
        return told(self.held, first, second, few=self.few, width=self.width)

    def keep(self, name, first, second):
        """Tell a table of two questions, and keep it by a name instead of what stands there."""
        now = self.told_now(first, second)
        self.deeds.append((name, self.tables.get(name)))
        self.tables[name] = (first, second, now)
        return copy_of(now)

    def entry(self, name):
        """Tell the questions of a table, and what was told."""
        if name not in self.tables:
            raise NoTable(name)
        return self.tables[name]


def copy_of(table):
    """Tell a table that is alike, its lists the asker's own."""
    shown = [list(row) for row in table.shown]
    return Told(shown, list(table.rows), list(table.columns), list(table.secret))


def is_alike(table, other):
    """Tell whether all fields of two tables are alike."""
    return (
        table.shown == other.shown
        and table.rows == other.rows
        and table.columns == other.columns
        and table.secret == other.secret
    )
