"""The texts of conditions: how they are written, with the needed brackets alone, and read."""

from skiphall.conds import Above, Below, Both, Either, Has, Is, Not

# How close a word binds. A bracket that is open binds nothing, and stops what is settled behind it.
CLOSENESS = {"(": 0, ")": 1, "or": 2, "and": 3, "not": 4}
LOOSEST = 1


def condition_text(condition):
    """Write a condition."""
    if isinstance(condition, Not):
        return "not " + text_within(condition.inner, isinstance(condition.inner, (Both, Either)))
    if isinstance(condition, Both):
        left = text_within(condition.left, isinstance(condition.left, Either))
        right = text_within(condition.right, isinstance(condition.right, (Both, Either)))
        return f"{left} and {right}"
    if isinstance(condition, Either):
        left = condition_text(condition.left)
        right = text_within(condition.right, isinstance(condition.right, Either))
        return f"{left} or {right}"
    return simple_text(condition)


def text_within(condition, needs_brackets):
    """Write a condition that stands in another one."""
    text = condition_text(condition)
    if needs_brackets:
        return f"( {text} )"
    return text


def simple_text(condition):
    """Write a simple condition."""
    if isinstance(condition, Is):
        return f"{condition.name} is {condition.option}"
    if isinstance(condition, Has):
        return f"{condition.name} has {condition.option}"
    if isinstance(condition, Above):
        return f"{condition.name} above {condition.number}"
    return f"{condition.name} below {condition.number}"


def read_condition(parts):
    """Read the condition that is due, as far as it goes on.

    The words that wait for what they bind, and the conditions that are made,
    stand in lists, so that brackets may stand in brackets however often.
    """
    words, made = [], []
    read_operand(parts, words, made)
    while "(" in words or parts.ahead() in ("and", "or"):
        word = parts.take_word(words_behind(words))
        settle(words, made, CLOSENESS[word])
        if word == ")":
            words.pop()
        else:
            words.append(word)
            read_operand(parts, words, made)
    settle(words, made, LOOSEST)
    return made[0]


def words_behind(words):
    """Tell which words can stand behind what is made; a closing bracket needs one that waits for it."""
    if "(" in words:
        return ("and", "or", ")")
    return ("and", "or")


def read_operand(parts, words, made):
    """Read a simple condition with all that stands ahead of it."""
    while parts.ahead() in ("not", "("):
        words.append(parts.take_part())
    made.append(read_simple(parts))


def read_simple(parts):
    """Read a simple condition."""
    name = parts.take_name()
    word = parts.take_word(("is", "has", "above", "below"))
    if word == "is":
        return Is(name, parts.take_name())
    if word == "has":
        return Has(name, parts.take_name())
    if word == "above":
        return Above(name, parts.take_number())
    return Below(name, parts.take_number())


def settle(words, made, closeness):
    """Let the last waiting words that bind at least so close have what is made."""
    while len(words) > 0 and CLOSENESS[words[-1]] >= closeness:
        bind(words.pop(), made)


def bind(word, made):
    """Make one condition of the last one or two that are made."""
    right = made.pop()
    if word == "not":
        made.append(Not(right))
    elif word == "and":
        made.append(Both(made.pop(), right))
    else:
        made.append(Either(made.pop(), right))
