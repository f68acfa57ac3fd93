"""What read_form refuses with BadRow, and at which row and place: [23]."""

import unittest

from skiphall.errors import BadRow
from skiphall.formtexts import read_form
from tests.refusing import RefusalCase
from tests.samples import household_rows

NO_NAMES = ("where", "must", "and", "or", "not", "(", ")", "")

# A row alone, and the first part that cannot stand, or the number of its parts where it ends too soon.
CASES = [
    ("", 0),
    (" ", 0),
    (" section", 0),
    ("ONE a of x", 0),
    ("ones a of x", 0),
    ("where a is x", 0),
    ("end", 0),
    ("end end", 0),
    ("one", 1),
    ("one a", 2),
    ("one a of", 3),
    ("one a x", 2),
    ("one a OF x", 2),
    ("one a of where a is x", 3),
    ("one a  of x", 2),
    ("one a of x ", 4),
    ("one a of x  y", 4),
    ("one a of x where", 5),
    ("one a of x must", 4),
    ("one a of x ( y )", 4),
    ("one a of x and y", 4),
    ("one a of x where a is x y", 8),
    ("one a of x where a is x where a is x", 8),
    ("one a of x where a is x must a is x", 8),
    ("some", 1),
    ("some a", 2),
    ("some a of", 3),
    ("some a off x", 2),
    ("some a of where", 3),
    ("some a of x or y", 4),
    ("some a of x where a has", 7),
    ("number", 1),
    ("number a", 2),
    ("number a 0", 3),
    ("number a b 1", 2),
    ("number a 0 b", 3),
    ("number a 0 1 2", 4),
    ("number a 0 1 ", 4),
    ("number a 0 1 must a is x", 4),
    ("number a 0 1 where", 5),
    ("number a 0 where a is x", 3),
    ("number a where", 2),
    ("number 0", 2),
    ("check", 1),
    ("check a", 2),
    ("check a must", 3),
    ("check a where b is x", 2),
    ("check a b is x", 2),
    ("check a must where b is x", 3),
    ("check a must b is x c", 6),
    ("check a must b is x must b is x", 6),
    ("check a must b is x where", 7),
    ("check a must b is x where b is x where b is x", 10),
    ("section a", 1),
    ("section ", 1),
    ("section where", 2),
    ("section must a is x", 1),
    ("section where a is x )", 5),
    ("rounds", 1),
    ("rounds a b", 2),
    ("rounds a ", 2),
    ("rounds where a is x", 1),
    ("rounds a where", 3),
    ("rounds a where a above 1 1", 6),
]


class FormTextRefusalTest(RefusalCase):
    def assert_bad(self, texts, row, place):
        before = list(texts)
        self.assert_refused(BadRow, {"row": row, "place": place}, read_form, texts)
        self.assert_refused(BadRow, {"row": row, "place": place}, read_form, rows=tuple(texts))
        self.assertEqual(texts, before)

    def test_a_row_alone(self):
        for text, place in CASES:
            with self.subTest(text):
                self.assert_bad([text], 0, place)

    def test_a_row_behind_others(self):
        for text, place in CASES:
            with self.subTest(text):
                self.assert_bad(household_rows() + [text], 17, place)

    def test_the_first_row_that_is_not_of_its_form(self):
        for text, place in CASES:
            with self.subTest(text):
                self.assert_bad(["number n 0 1", text, "", "one a of"], 1, place)

    def test_a_row_within_others(self):
        for text, place in CASES:
            if not text.startswith("end"):
                with self.subTest(text):
                    self.assert_bad(["section", "rounds n", text, "end", "end"], 2, place)

    def test_end_with_parts_too_many(self):
        self.assert_bad(["section", "end end"], 1, 1)
        self.assert_bad(["section", "number a 0 1", "end where a above 1"], 2, 1)
        self.assert_bad(["section", "end "], 1, 1)
        self.assert_bad(["rounds a", "END"], 1, 0)

    def test_end_too_many(self):
        self.assert_bad(["end"], 0, 0)
        self.assert_bad(["number a 0 1", "end"], 1, 0)
        self.assert_bad(["section", "number a 0 1", "end", "end"], 3, 0)
        self.assert_bad(["section", "section", "end", "end", "number a 0 1", "end", "end"], 5, 0)

    def test_end_lacking(self):
        self.assert_bad(["section"], 1, 0)
        self.assert_bad(["section", "number a 0 1"], 2, 0)
        self.assert_bad(["number n 0 4", "rounds n", "section", "number a 0 1", "end"], 5, 0)
        self.assert_bad(["section"] * 500, 500, 0)

    def test_end_lacking_behind_all_the_rows(self):
        self.assert_bad(["section", "number a 0"], 1, 3)
        self.assert_bad(["section", "number a 0 1", ""], 2, 0)

    def test_ahead_of_what_the_form_refuses(self):
        self.assert_bad(["one A of x x", "number a 1 0", "section", "end", "end"], 4, 0)
        self.assert_bad(["number a 0 1"] * 41 + ["number a 0"], 41, 3)
        self.assert_bad(["section", "one A of x"], 2, 0)

    def test_where_a_name_is_due(self):
        ahead = ["one a of x", "some b of x", "number c 0 4"]
        for text in NO_NAMES:
            for row, place in (
                ("one {} of x", 1),
                ("one q of {}", 3),
                ("some {} of x", 1),
                ("some q of {}", 3),
                ("some q of {} x", 3),
                ("number {} 0 1", 1),
                ("check {} must a is x", 1),
                ("check q must a is {}", 5),
                ("check q must b has {}", 5),
                ("number q 0 1 where a is {}", 7),
                ("rounds {}", 1),
            ):
                with self.subTest(row, text=text):
                    self.assert_bad(ahead + [row.format(text)], 3, place)

    def test_among_options_where_alone_ends_them(self):
        for text in NO_NAMES:
            if text != "where":
                self.assert_bad([f"one a of x {text} y"], 0, 4)
                self.assert_bad([f"some a of x y {text}"], 0, 5)

    def test_numbers(self):
        for text in ("", "-", "+1", "01", "00", "-0", "-01", "--1", "1-", "1.0", "1,0", "x", "0x1", "1e3", "1_0",
                     "1234567890123", "-1234567890123", "000000000001", "where", "(", "not"):
            with self.subTest(text):
                self.assert_bad([f"number a {text} 1"], 0, 2)
                self.assert_bad([f"number a -1 {text}"], 0, 3)
        for text in ("0", "1", "-1", "10", "-10", "123456789012", "-123456789012"):
            with self.subTest(text):
                self.assertEqual(read_form([f"number a {text} {text}"]).question("a").low, int(text))
                self.assertEqual(read_form([f"number a {text} {text}"]).question("a").high, int(text))

    def test_rows_that_end_too_soon(self):
        ahead = ["one a of x", "number n 0 4"]
        for text, whole in (
            ("one q of x y where not a is x", (4, 5, 10)),
            ("some q of x y where a is x and n above 1", (4, 5, 9, 13)),
            ("number q 0 1 where not ( a is x )", (4, 11)),
            ("check q must a is x and n above 1 where a is x or n below 1", (6, 10, 14, 18)),
            ("section where ( a is x or n above 1 )", (1, 11)),
            ("rounds n where a is x", (2, 6)),
        ):
            parts = text.split(" ")
            self.assertEqual(whole[-1], len(parts))
            for many in range(1, len(parts) + 1):
                with self.subTest(text, many=many):
                    rows = ahead + [" ".join(parts[:many])]
                    if many not in whole:
                        self.assert_bad(rows, 2, many)
                    elif parts[0] in ("section", "rounds"):
                        read_form(rows + ["number z 0 1", "end"])
                    else:
                        read_form(rows)

    def test_an_empty_part_anywhere(self):
        rows = household_rows()
        for at, text in enumerate(rows):
            parts = text.split(" ")
            for place in range(len(parts) + 1):
                row = " ".join(parts[:place] + [""] + parts[place:])
                with self.subTest(row):
                    self.assert_bad(rows[:at] + [row] + rows[at + 1:], at, place)


if __name__ == "__main__":
    unittest.main()
