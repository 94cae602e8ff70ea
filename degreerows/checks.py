"""What is asked of single values, whatever they are."""

_MOST_SIGNS = 8
_LETTERS = "abcdefghijklmnopqrstuvwxyz"
_DIGITS = "0123456789"


def is_integer(value):
    return isinstance(value, int) and not isinstance(value, bool)


def is_between(value, least, most):
    return is_integer(value) and least <= value <= most


def is_pair(value):
    return isinstance(value, tuple) and len(value) == 2


def is_empty(value):
    return isinstance(value, tuple) and len(value) == 0


def is_filled(value):
    return isinstance(value, tuple) and len(value) > 0


def is_name(value):
    if not isinstance(value, str) or not 1 <= len(value) <= _MOST_SIGNS:
        return False
    return value[0] in _LETTERS and all([sign in _LETTERS + _DIGITS for sign in value])


def is_numeral(text):
    """Whether the string is an integer from 0 on in decimal digits, no 0 in front but for 0 itself."""
    if not (text.isascii() and text.isdigit()):
        return False
    return text == "0" or not text.startswith("0")
