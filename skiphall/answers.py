"""Answers: which ones are answers of a question."""

from skiphall.forms import Number, Some


def is_answer(question, answer):
    """Tell whether this is an answer of the question; it may be anything that answers have."""
    if isinstance(question, Some):
        return isinstance(answer, tuple) and list(answer) == chosen_in_order(question.options, answer)
    if isinstance(question, Number):
        return is_number(answer) and question.low <= answer <= question.high
    return answer in question.options


def chosen_in_order(options, answer):
    """List the options that an answer has, in their own order, each once."""
    return [option for option in options if option in answer]


def is_number(answer):
    """Tell whether an answer is a number; True and False are none, though Python reckons with them."""
    return isinstance(answer, int) and not isinstance(answer, bool)
