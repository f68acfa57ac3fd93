"""The texts of conditions, as they stand in the rows of a form: [23]."""

import unittest

from skiphall.conds import Above, Below, Both, Either, Has, Is, Not
from skiphall.errors import BadRow
from skiphall.forms import Check, Form, Number, One, Some
from skiphall.formtexts import form_rows, read_form
from tests.refusing import RefusalCase

HEAD = ["one a of x y", "some b of x y", "number c -9 9"]
ROWS = [One("a", ["x", "y"]), Some("b", ["x", "y"]), Number("c", -9, 9)]
P, Q, R, S = Is("a", "x"), Has("b", "y"), Above("c", 3), Below("c", -3)
WRITTEN = {"P": "a is x", "Q": "b has y", "R": "c above 3", "S": "c below -3"}


def spelled(text):
    """A text with each big letter spelled out as the simple condition of this name."""
    return " ".join(WRITTEN.get(part, part) for part in text.split(" "))


def written(condition):
    """How a condition is written in a must."""
    row = form_rows(Form(ROWS + [Check("k", condition)]))[3]
    return row.removeprefix("check k must ")


def read(text):
    """The condition that is read in a must."""
    return read_form(HEAD + ["check k must " + text]).outline()[3].must


def bracket_pairs(parts):
    """The places of brackets that belong to each other."""
    pairs, waiting = [], []
    for at, part in enumerate(parts):
        if part == "(":
            waiting.append(at)
        if part == ")":
            pairs.append((waiting.pop(), at))
    return pairs


def conditions(many, simple):
    """All conditions of so many simple ones, taken in turn, with at most one Not ahead of each."""
    if many == 1:
        return [simple[0], Not(simple[0])]
    made = []
    for split in range(1, many):
        for left in conditions(split, simple[:split]):
            for right in conditions(many - split, simple[split:]):
                for kind in (Both, Either):
                    made.extend([kind(left, right), Not(kind(left, right))])
    return made


# Each is read and written so.
PLAIN = [
    (P, "P"),
    (Q, "Q"),
    (R, "R"),
    (S, "S"),
    (Not(P), "not P"),
    (Not(Not(Not(P))), "not not not P"),
    (Both(P, Q), "P and Q"),
    (Either(P, Q), "P or Q"),
    (Not(Both(P, Q)), "not ( P and Q )"),
    (Not(Either(P, Q)), "not ( P or Q )"),
    (Not(Not(Either(P, Q))), "not not ( P or Q )"),
    (Both(Not(P), Q), "not P and Q"),
    (Either(Not(P), Q), "not P or Q"),
    (Both(P, Not(Q)), "P and not Q"),
    (Both(Both(P, Q), R), "P and Q and R"),
    (Both(P, Both(Q, R)), "P and ( Q and R )"),
    (Either(Either(P, Q), R), "P or Q or R"),
    (Either(P, Either(Q, R)), "P or ( Q or R )"),
    (Either(Both(P, Q), R), "P and Q or R"),
    (Either(P, Both(Q, R)), "P or Q and R"),
    (Both(Either(P, Q), R), "( P or Q ) and R"),
    (Both(P, Either(Q, R)), "P and ( Q or R )"),
    (Either(Both(P, Q), Both(R, S)), "P and Q or R and S"),
    (Both(Either(P, Q), Either(R, S)), "( P or Q ) and ( R or S )"),
    (Both(Both(P, Q), Both(R, S)), "P and Q and ( R and S )"),
    (Either(Either(P, Q), Either(R, S)), "P or Q or ( R or S )"),
    (Either(P, Either(Q, Either(R, S))), "P or ( Q or ( R or S ) )"),
    (Either(Either(P, Both(Q, R)), S), "P or Q and R or S"),
    (Both(Not(Either(P, Q)), Not(R)), "not ( P or Q ) and not R"),
]

# Each is read so, but written otherwise.
NEEDLESS = [
    (P, "( P )"),
    (P, "( ( ( P ) ) )"),
    (Not(P), "not ( P )"),
    (Not(P), "( not P )"),
    (Not(Not(P)), "not ( not P )"),
    (Both(P, Q), "( P and Q )"),
    (Both(P, Q), "( P ) and ( Q )"),
    (Both(Both(P, Q), R), "( P and Q ) and R"),
    (Either(Either(P, Q), R), "( P or Q ) or R"),
    (Either(Both(P, Q), R), "( P and Q ) or R"),
    (Either(P, Both(Q, R)), "P or ( Q and R )"),
    (Both(Not(P), Q), "( not P ) and Q"),
    (Not(Both(P, Q)), "not ( ( P and Q ) )"),
    (Both(Either(P, Q), R), "( ( P or Q ) and ( R ) )"),
]


class WrittenTest(unittest.TestCase):
    def test_with_the_needed_brackets(self):
        for condition, text in PLAIN:
            with self.subTest(text):
                self.assertEqual(written(condition), spelled(text))

    def test_all_of_few_simple_ones_with_no_needless_bracket(self):
        for many in (1, 2, 3, 4):
            for condition in conditions(many, [P, Q, R, S]):
                text = written(condition)
                self.assertEqual(read(text), condition)
                parts = text.split(" ")
                for left, right in bracket_pairs(parts):
                    fewer = [part for at, part in enumerate(parts) if at not in (left, right)]
                    self.assertNotEqual(read(" ".join(fewer)), condition, text)

    def test_thirty_simple_ones(self):
        one, other = P, P
        for times in range(29):
            one, other = Both(one, Q), Either(other, Q)
        self.assertEqual(written(one), spelled(" and ".join(["P"] + ["Q"] * 29)))
        self.assertEqual(written(other), spelled(" or ".join(["P"] + ["Q"] * 29)))
        self.assertEqual(read(written(one)), one)
        self.assertEqual(read(written(other)), other)


class ReadTest(unittest.TestCase):
    def test_as_they_are_written(self):
        for condition, text in PLAIN:
            with self.subTest(text):
                self.assertEqual(read(spelled(text)), condition)

    def test_needless_brackets(self):
        for condition, text in NEEDLESS:
            with self.subTest(text):
                self.assertEqual(read(spelled(text)), condition)
                self.assertNotEqual(written(condition), spelled(text))

    def test_very_many_needless_brackets(self):
        for many in (10, 100, 1000, 10000):
            self.assertEqual(read(spelled("( " * many + "P or Q" + " )" * many)), Either(P, Q))

    def test_numbers(self):
        for text in ("0", "7", "10", "123456789012", "999999999999", "-1", "-10", "-999999999999"):
            self.assertEqual(read("c above " + text), Above("c", int(text)))
            self.assertEqual(read("c below " + text), Below("c", int(text)))

    def test_in_a_where_too(self):
        for condition, text in PLAIN + NEEDLESS:
            form = read_form(HEAD + ["number k 0 1 where " + spelled(text)])
            self.assertEqual(form.outline()[3].where, condition)
            form = read_form(HEAD + ["check k must P where Q".replace("P", spelled(text)).replace("Q", spelled(text))])
            self.assertEqual((form.outline()[3].must, form.outline()[3].where), (condition, condition))


class RefusedTest(RefusalCase):
    # A condition's text, and the first part that cannot stand there; big letters are three parts.
    CASES = [
        ("where a is x", 0),
        ("must a is x", 0),
        ("and", 0),
        ("or P", 0),
        (")", 0),
        ("( )", 1),
        ("( ( P ) ) )", 7),
        ("P )", 3),
        ("P ) and Q", 3),
        ("( P", 4),
        ("( P and", 5),
        ("( P and Q", 8),
        ("( P where", 4),
        ("( P not", 4),
        ("( P ( Q )", 4),
        ("( P must", 4),
        ("( P Q )", 4),
        ("( where", 1),
        ("not", 1),
        ("not not", 2),
        ("not and", 1),
        ("not )", 1),
        ("not where", 1),
        ("P not Q", 3),
        ("P Q", 3),
        ("P ( Q )", 3),
        ("P and", 4),
        ("P or", 4),
        ("P and or Q", 4),
        ("P and and Q", 4),
        ("P or )", 4),
        ("P and where", 4),
        ("P must", 3),
        ("P is x", 3),
        ("P AND Q", 3),
        ("a", 1),
        ("a is", 2),
        ("a has", 2),
        ("a above", 2),
        ("a below", 2),
        ("a was x", 1),
        ("a IS x", 1),
        ("a where", 1),
        ("a and", 1),
        ("a )", 1),
        ("a not x", 1),
        ("a is not", 2),
        ("a is where", 2),
        ("a is must", 2),
        ("a is and", 2),
        ("a is or", 2),
        ("a is (", 2),
        ("a is )", 2),
        ("a has not x", 2),
        ("c above x", 2),
        ("c below x", 2),
        ("c above -", 2),
        ("c above +1", 2),
        ("c above 1.5", 2),
        ("c above --1", 2),
        ("c above 01", 2),
        ("c above 00", 2),
        ("c above -0", 2),
        ("c above -01", 2),
        ("c below 1234567890123", 2),
        ("c below -1234567890123", 2),
        ("c above 1_000", 2),
        ("c above (", 2),
    ]

    def test_the_first_part_that_cannot_stand(self):
        for text, place in self.CASES:
            with self.subTest(text):
                row = "check k must " + spelled(text)
                self.assert_refused(BadRow, {"row": 3, "place": 3 + place}, read_form, HEAD + [row])
                row = "section where " + spelled(text)
                self.assert_refused(BadRow, {"row": 3, "place": 2 + place}, read_form, HEAD + [row, "end"])

    def test_an_empty_part_anywhere(self):
        for condition, text in PLAIN + NEEDLESS:
            parts = ("check k must " + spelled(text)).split(" ")
            for at in range(len(parts) + 1):
                row = " ".join(parts[:at] + [""] + parts[at:])
                self.assert_refused(BadRow, {"row": 3, "place": at}, read_form, HEAD + [row])


if __name__ == "__main__":
    unittest.main()
