"""Figures: how numbers are written in rows."""

FIGURES = "0123456789"
MOST_FIGURES = 12


def is_count_text(text, most):
    """Tell whether a text is 1 to most figures, without a nought ahead but nought itself."""
    if not 1 <= len(text) <= most:
        return False
    if text[0] == "0" and len(text) > 1:
        return False
    return all([sign in FIGURES for sign in text])


def is_number_text(text):
    """Tell whether a text is a number as it is read, perhaps one below nought."""
    if text.startswith("-"):
        return text != "-0" and is_count_text(text[1:], MOST_FIGURES)
    return is_count_text(text, MOST_FIGURES)
