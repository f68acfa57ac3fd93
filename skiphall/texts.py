"""The texts of answers: how they are written and read."""

from skiphall.errors import BadRow
from skiphall.figures import MOST_FIGURES, is_count_text, is_number_text
from skiphall.names import is_name

NO_ANSWERS = "none"


def answers_row(answers):
    """Write answers, sorted by their spots."""
    if len(answers) == 0:
        return NO_ANSWERS
    return " ".join([f"{spot_text(spot)}={answer_text(answers[spot])}" for spot in sorted(answers)])


def spot_text(spot):
    """Write a spot."""
    name, k = spot
    return f"{name}.{k}"


def answer_text(answer):
    """Write an answer: an option, a number or some options."""
    if not isinstance(answer, tuple):
        return str(answer)
    if len(answer) == 0:
        return "+"
    return "".join(["+" + option for option in answer])


def read_answers(text):
    """Read the answers of this text."""
    if text == NO_ANSWERS:
        return {}
    answers = {}
    for place, part in enumerate(text.split(" ")):
        if not is_part(part):
            raise BadRow(0, place)
        at, answer = part.split("=")
        spot = read_spot(at)
        if spot in answers:
            raise BadRow(0, place)
        answers[spot] = read_answer(answer)
    return answers


def is_part(part):
    """Tell whether a part is a spot and its answer."""
    halves = part.split("=")
    return len(halves) == 2 and is_spot_text(halves[0]) and is_answer_text(halves[1])


def is_spot_text(text):
    """Tell whether a text is a spot's."""
    halves = text.split(".")
    return len(halves) == 2 and is_name(halves[0]) and is_count_text(halves[1], MOST_FIGURES)


def is_answer_text(text):
    """Tell whether a text is an answer's."""
    if text.startswith("+"):
        options = options_in(text)
        return all([is_name(option) for option in options]) and len(set(options)) == len(options)
    return is_name(text) or is_number_text(text)


def options_in(text):
    """List the options of a text that begins with their sign; the sign alone has none."""
    if text == "+":
        return []
    return text[1:].split("+")


def read_spot(text):
    """Read a spot's text."""
    name, k = text.split(".")
    return (name, int(k))


def read_answer(text):
    """Read an answer's text."""
    if text.startswith("+"):
        return tuple(options_in(text))
    if is_name(text):
        return text
    return int(text)
