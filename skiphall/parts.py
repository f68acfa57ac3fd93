"""Parts: a row that is read part by part, and refused where a part cannot stand."""

from skiphall.errors import BadRow
from skiphall.figures import is_count_text, is_number_text

NO_NAMES = ("", "where", "must", "and", "or", "not", "(", ")")


class Parts:
    """The parts of a row, which stand one blank apart, and the place of the one that is due.

    Behind the last part the place is the number of the parts, so a row that ends
    too soon is refused as one with a part that cannot stand.
    """

    def __init__(self, row, text):
        self.row = row
        self.parts = text.split(" ")
        self.place = 0

    def ended(self):
        """Tell whether no part is left."""
        return self.place == len(self.parts)

    def ahead(self):
        """Tell the part that is due; where none is left an empty one, which can stand nowhere."""
        if self.ended():
            return ""
        return self.parts[self.place]

    def take_part(self):
        """Tell the part that is due, and go on behind it."""
        part = self.ahead()
        self.place += 1
        return part

    def take_word(self, words):
        """Take one of these words."""
        if self.ahead() not in words:
            raise BadRow(self.row, self.place)
        return self.take_part()

    def take_name(self):
        """Take a part where a name is due; whether it is one is told by the Form."""
        if self.ahead() in NO_NAMES:
            raise BadRow(self.row, self.place)
        return self.take_part()

    def take_number(self):
        """Take a number."""
        if not is_number_text(self.ahead()):
            raise BadRow(self.row, self.place)
        return int(self.take_part())

    def take_text(self):
        """Take a part that may be any but an empty one."""
        if self.ahead() == "":
            raise BadRow(self.row, self.place)
        return self.take_part()

    def take_count(self, most):
        """Take a number from nought on, of so many figures at most."""
        if not is_count_text(self.ahead(), most):
            raise BadRow(self.row, self.place)
        return int(self.take_part())

    def take_rest(self):
        """Take all parts that are left, one of them at least, as one text."""
        texts = [self.take_text()]
        while not self.ended():
            texts.append(self.take_text())
        return " ".join(texts)

    def finish(self):
        """Refuse a part that is left."""
        if not self.ended():
            raise BadRow(self.row, self.place)
