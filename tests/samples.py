"""Forms that several tests ask about."""

from skiphall.conds import Above, Below, Both, Either, Has, Is, Not
from skiphall.forms import Check, Number, One, Rounds, Section, Some


def household():
    """Rows of all kinds, with conditions of all kinds."""
    return [
        One("home", ["house", "flat", "none"]),
        Section(
            [
                Number("heads", 0, 4),
                Some("pets", ["cat", "dog"], where=Not(Is("home", "none"))),
                Section([One("garden", ["yes", "no"], where=Is("home", "house"))]),
            ],
            where=Either(Is("home", "house"), Is("home", "flat")),
        ),
        Check("room", Below("heads", 4), where=Has("pets", "dog")),
        Rounds(
            "heads",
            [
                Number("age", 0, 120),
                Section([One("job", ["paid", "free"], where=Above("age", 15))]),
                Check("old", Not(Both(Is("job", "paid"), Above("age", 90)))),
            ],
            where=Has("pets", "cat"),
        ),
        Number("left", -5, -1),
    ]


def household_rows():
    """The same rows as texts."""
    return [
        "one home of house flat none",
        "section where home is house or home is flat",
        "number heads 0 4",
        "some pets of cat dog where not home is none",
        "section",
        "one garden of yes no where home is house",
        "end",
        "end",
        "check room must heads below 4 where pets has dog",
        "rounds heads where pets has cat",
        "number age 0 120",
        "section",
        "one job of paid free where age above 15",
        "end",
        "check old must not ( job is paid and age above 90 )",
        "end",
        "number left -5 -1",
    ]
