"""Styles: ascending tuples of numbers, with at most one number of each kind."""

from fardesk.characters import digits

SINGLE_KINDS = {1: "bold", 4: "underlined", 7: "inverse"}
REMOVED_KINDS = {22: "bold", 24: "underlined", 27: "inverse", 39: "foreground", 49: "background"}


def kind_of_number(number):
    """Return the kind of a number that occurs in styles, otherwise the empty string."""
    # True is no whole number, but a dict would take it for 1.
    if isinstance(number, bool):
        return ""
    if 30 <= number <= 37:
        return "foreground"
    if 40 <= number <= 47:
        return "background"
    return SINGLE_KINDS.get(number, "")


def is_style(style):
    """Return whether a tuple of whole numbers is a style."""
    least = 0
    kinds = []
    for number in style:
        kind = kind_of_number(number)
        if kind == "" or kind in kinds or number < least:
            return False
        kinds.append(kind)
        least = number
    return True


def without_kind(style, kind):
    """Return a list of the numbers of a style that are of other kinds."""
    return [number for number in style if kind_of_number(number) != kind]


def styled(style, number):
    """Return the style after one style number."""
    if number == 0:
        return ()
    kind = kind_of_number(number)
    if kind != "":
        return tuple(sorted(without_kind(style, kind) + [number]))
    if number in REMOVED_KINDS:
        return tuple(without_kind(style, REMOVED_KINDS[number]))
    return style


def turned(style, numbers):
    """Return the style after the style numbers of a list or tuple, in order."""
    for number in numbers:
        style = styled(style, number)
    return style


def style_text(style):
    """Return the numbers that turn any style into this one, with semicolons between them."""
    text = digits(0)
    for number in style:
        text = text + [59] + digits(number)
    return text
