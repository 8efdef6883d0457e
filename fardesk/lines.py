"""Lines: tuples of cells in which each wide character is followed by its right half."""

from fardesk.characters import is_character, kind_of, width_of
from fardesk.styles import is_style

BLANK = (32, ())


def blank_line(columns):
    """Return a line of blank cells."""
    return (BLANK,) * columns


def is_line(cells):
    """Return whether a tuple of tuples (character, style) is a line."""
    # The right half that has to come next, or None where none may come.
    half = None
    for character, style in cells:
        if not is_character(character) or not is_style(style):
            return False
        if half is not None:
            if (character, style) != half:
                return False
            half = None
        elif kind_of(character) == "control":
            return False
        elif kind_of(character) == "wide":
            half = (0, style)
    return half is None


def cut_at(line, column):
    """Return the line after it was cut at a column."""
    if 0 < column < len(line) and line[column][0] == 0:
        return line[:column - 1] + blank_line(2) + line[column + 1:]
    return line


def put(line, column, character, style):
    """Return the line with a narrow or wide character in the cells from a column on."""
    behind = column + width_of(character)
    line = cut_at(cut_at(line, column), behind)
    cells = ((character, style),)
    if kind_of(character) == "wide":
        cells = ((character, style), (0, style))
    return line[:column] + cells + line[behind:]


def erased(line, start, end):
    """Return the line with blank cells from start up to, but not including, end."""
    if end <= start:
        return line
    line = cut_at(cut_at(line, start), end)
    return line[:start] + blank_line(end - start) + line[end:]


def inserted(line, column, many):
    """Return the line with blank cells inserted at a column; as many vanish at its end."""
    many = min(many, len(line) - column)
    if many == 0:
        return line
    end = len(line) - many
    line = cut_at(cut_at(line, column), end)
    return line[:column] + blank_line(many) + line[column:end]


def deleted(line, column, many):
    """Return the line without so many cells from a column on, filled up at its end."""
    many = min(many, len(line) - column)
    if many == 0:
        return line
    behind = column + many
    line = cut_at(cut_at(line, column), behind)
    return line[:column] + line[behind:] + blank_line(many)


def fitted(line, columns):
    """Return the line with another number of cells."""
    if columns > len(line):
        return line + blank_line(columns - len(line))
    return cut_at(line, columns)[:columns]


def line_text(line):
    """Return the list of the characters of a line, without the spaces at its end."""
    text = [character for character, _ in line if character != 0]
    while text and text[-1] == 32:
        text.pop()
    return text
