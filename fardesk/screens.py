"""Screens: tuples (lines, cursor, visible, title)."""

from fardesk.characters import is_character, is_printable
from fardesk.lines import blank_line, fitted, is_line, line_text

MOST_ROWS = 12
LEAST_COLUMNS = 2
MOST_COLUMNS = 40
MOST_TITLE = 40


def is_size(rows, columns):
    """Return whether two whole numbers are the size of a screen."""
    return 1 <= rows <= MOST_ROWS and LEAST_COLUMNS <= columns <= MOST_COLUMNS


def nearest(place, many):
    """Return the number from 0 to many - 1 that is nearest to a place."""
    return max(0, min(place, many - 1))


def blank_screen(rows, columns):
    """Return the screen of blank cells."""
    return (blank_line(columns),) * rows, (0, 0), True, ()


def are_screen_lines(lines):
    """Return whether a tuple of tuples of cells has the lines of a screen."""
    if len(lines) == 0 or not is_size(len(lines), len(lines[0])):
        return False
    for line in lines:
        if len(line) != len(lines[0]) or not is_line(line):
            return False
    return True


def size_of(screen):
    """Return the number of rows and the number of columns of a screen."""
    lines = screen[0]
    return len(lines), len(lines[0])


def is_place(place, many):
    """Return whether a whole number is from 0 to many - 1; a bool is not a whole number."""
    return not isinstance(place, bool) and 0 <= place < many


def is_title(title):
    """Return whether a tuple of whole numbers is a title."""
    for character in title:
        if not is_character(character):
            return False
    return len(title) <= MOST_TITLE and is_printable(title)


def is_screen(value):
    """Return whether a tuple (lines, cursor, visible, title) is a screen."""
    lines, (row, column), visible, title = value
    if not are_screen_lines(lines):
        return False
    if not is_place(row, len(lines)) or not is_place(column, len(lines[0])):
        return False
    return isinstance(visible, bool) and is_title(title)


def resized_lines(lines, rows, columns):
    """Return the lines of a resized screen, a tuple; the lines are a list or tuple."""
    kept = [fitted(line, columns) for line in lines[:rows]]
    return tuple(kept + [blank_line(columns)] * (rows - len(kept)))


def resized(screen, rows, columns):
    """Return the resized screen."""
    lines, (row, column), visible, title = screen
    cursor = (nearest(row, rows), nearest(column, columns))
    return resized_lines(lines, rows, columns), cursor, visible, title


def screen_text(screen):
    """Return the list of the texts of the lines."""
    return [line_text(line) for line in screen[0]]
