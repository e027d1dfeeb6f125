"""Which numbers and which kinds of pieces are allowed."""

from emptiesback.errors import InvalidNumber

MAX_NUMBER = 10 ** 18
MAX_LABEL_LENGTH = 8
DRINK = "drink"


def is_integer(value):
    """Return whether a value is an integer."""
    # For Python, True and False are integers; for the package they are not.
    return isinstance(value, int) and not isinstance(value, bool)


def is_number(value, least, most):
    """Return whether a value is an integer from `least` to `most`."""
    return is_integer(value) and least <= value <= most


def check_number(value, least=0, most=MAX_NUMBER):
    """Raise InvalidNumber unless a value is an integer from `least` to `most`."""
    if not is_number(value, least, most):
        # The value is not shown: Python cannot write out every integer.
        raise InvalidNumber(f"not an integer from {least} to {most}")


def is_label(value):
    """Return whether a value is a string of one to eight letters a to z."""
    if not isinstance(value, str) or not 1 <= len(value) <= MAX_LABEL_LENGTH:
        return False
    return all(["a" <= letter <= "z" for letter in value])


def is_kind(value):
    """Return whether a value may be the name of a kind of pieces."""
    return is_label(value) and value != DRINK
