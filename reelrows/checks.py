"""Whether what is handed in is of the kind that is asked for."""

FIGURES = "0123456789"
NAME_SIGNS = "ABCDEFGHIJKLMNOPQRSTUVWXYZ0123456789"


def is_whole(value, least, most):
    """Whether it is a whole number within these limits."""
    # Python counts True and False among the integers, the document does not.
    if isinstance(value, bool) or not isinstance(value, int):
        return False
    return least <= value <= most


def is_text(value, least, most):
    """Whether it is a text with so many signs."""
    return isinstance(value, str) and least <= len(value) <= most


def is_name(value, most):
    """Whether it is a name of up to so many signs."""
    # A name without signs could never be read from a label again.
    return is_text(value, 1, most) and all(sign in NAME_SIGNS for sign in value)


def are_figures(text):
    """Whether all signs of a text are figures."""
    return all(sign in FIGURES for sign in text)


def are_texts(values, least, most):
    """Whether it is a list of texts with so many signs each."""
    return isinstance(values, list) and all(is_text(value, least, most) for value in values)
