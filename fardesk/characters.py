"""Characters, which are whole numbers from 0 to 255, and texts, which are lists of them."""

WIDTHS = {"control": 0, "narrow": 1, "wide": 2}


def codes(string):
    """Return the text of a Python string."""
    return [ord(sign) for sign in string]


def is_character(value):
    """Return whether a whole number is a character; a bool is not a whole number."""
    return not isinstance(value, bool) and 0 <= value <= 255


def kind_of(character):
    """Return "control", "narrow" or "wide"."""
    if character < 32 or 127 <= character <= 159:
        return "control"
    if character < 192:
        return "narrow"
    return "wide"


def width_of(character):
    """Return how many cells a character takes."""
    return WIDTHS[kind_of(character)]


def is_printable(text):
    """Return whether a list or tuple of characters has no control characters."""
    for character in text:
        if kind_of(character) == "control":
            return False
    return True


def digits(number):
    """Return the decimal digits of a whole number from 0 on, a text."""
    return codes(str(number))
