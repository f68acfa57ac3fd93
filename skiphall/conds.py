"""Conditions: what rows ask of the answers to the questions ahead of them.

A condition refuses nothing by itself: whether what it speaks of is there can be
told only by the form in which it stands.
"""


class Condition:
    """What holds, or does not hold, of answers."""


class Is(Condition):
    """The One of this name is answered by the option."""

    def __init__(self, name, option):
        self.name = name
        self.option = option

    def __eq__(self, other):
        return isinstance(other, Is) and self.name == other.name and self.option == other.option


class Has(Condition):
    """The answer of the Some of this name has the option."""

    def __init__(self, name, option):
        self.name = name
        self.option = option

    def __eq__(self, other):
        return isinstance(other, Has) and self.name == other.name and self.option == other.option


class Above(Condition):
    """The answer of the Number of this name is above the number."""

    def __init__(self, name, number):
        self.name = name
        self.number = number

    def __eq__(self, other):
        return isinstance(other, Above) and self.name == other.name and self.number == other.number


class Below(Condition):
    """The answer of the Number of this name is below the number."""

    def __init__(self, name, number):
        self.name = name
        self.number = number

    def __eq__(self, other):
        return isinstance(other, Below) and self.name == other.name and self.number == other.number


class Not(Condition):
    """The inner condition does not hold."""

    def __init__(self, inner):
        self.inner = inner

    def __eq__(self, other):
        return isinstance(other, Not) and self.inner == other.inner


class Both(Condition):
    """The left and the right condition hold."""

    def __init__(self, left, right):
        self.left = left
        self.right = right

    def __eq__(self, other):
        return isinstance(other, Both) and self.left == other.left and self.right == other.right


class Either(Condition):
    """The left or the right condition holds, or both do."""

    def __init__(self, left, right):
        self.left = left
        self.right = right

    def __eq__(self, other):
        return isinstance(other, Either) and self.left == other.left and self.right == other.right


def simple_ones(condition):
    """List the simple conditions in a condition, from left to right."""
    if isinstance(condition, Not):
        return simple_ones(condition.inner)
    if isinstance(condition, (Both, Either)):
        return simple_ones(condition.left) + simple_ones(condition.right)
    return [condition]
