"""Moving the lines of a part of the screen; the part has the lines from top to bottom, both included."""

from fardesk.lines import blank_line


def moved_up(lines, top, bottom, many):
    """Return a list of lines in which the first ones of the part are removed, and blank ones come in at its end."""
    many = min(many, bottom - top + 1)
    blank = [blank_line(len(lines[top]))] * many
    return lines[:top] + lines[top + many:bottom + 1] + blank + lines[bottom + 1:]


def moved_down(lines, top, bottom, many):
    """Return a list of lines in which blank ones come in at the top of the part, and its last ones are removed."""
    many = min(many, bottom - top + 1)
    blank = [blank_line(len(lines[top]))] * many
    return lines[:top] + blank + lines[top:bottom + 1 - many] + lines[bottom + 1:]
