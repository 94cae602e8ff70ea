"""What is asked of single values, whatever they are."""


def is_integer(value):
    return isinstance(value, int) and not isinstance(value, bool)


def is_between(value, least, most):
    return is_integer(value) and least <= value <= most


def is_pair(value):
    return isinstance(value, tuple) and len(value) == 2


def is_filled(value):
    return isinstance(value, tuple) and len(value) > 0


def is_numeral(text):
    """Whether the string is an integer from 0 on in decimal digits, no 0 in front but for 0 itself."""
    if not (text.isascii() and text.isdigit()):
        return False
    return text == "0" or not text.startswith("0")
