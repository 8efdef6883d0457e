"""Differences of screens: texts that turn a plain terminal with one screen into one with another."""

from fardesk.characters import codes, digits
from fardesk.lines import BLANK
from fardesk.screens import resized, size_of
from fardesk.styles import style_text
from fardesk.terminals import showing


def size_piece(rows, columns):
    """Return the sequence that gives a terminal another size."""
    return [27] + codes("[8;") + digits(rows) + codes(";") + digits(columns) + codes("t")


def place_piece(row, column):
    """Return the sequence that brings the cursor to a cell."""
    return [27] + codes("[") + digits(row + 1) + codes(";") + digits(column + 1) + codes("H")


def style_piece(style):
    """Return the sequence that turns any style into this one."""
    return [27] + codes("[") + style_text(style) + codes("m")


def differing_columns(old, new):
    """Return the first and the last column to be written where two lines of the same length differ."""
    columns = [column for column in range(len(new)) if old[column] != new[column]]
    first = columns[0]
    last = columns[-1]
    if new[first][0] == 0:
        first -= 1
    if last + 1 < len(new) and new[last + 1][0] == 0:
        last += 1
    return first, last


def end_of(line):
    """Return the column behind the last cell that is not blank."""
    end = len(line)
    while end > 0 and line[end - 1] == BLANK:
        end -= 1
    return end


def cells_piece(cells, style):
    """Return the text that prints cells where a style is set, and the style that is set then."""
    text = []
    for character, wanted in cells:
        if character == 0:
            continue
        if wanted != style:
            style = wanted
            text.extend(style_piece(style))
        text.append(character)
    return text, style


def line_piece(row, old, new, style):
    """Return the text that turns one line into another, and the style that is set then."""
    first, last = differing_columns(old, new)
    end = end_of(new)
    text, style = cells_piece(new[first:min(last + 1, end)], style)
    if last >= end:
        text.extend([27] + codes("[K"))
    return place_piece(row, first) + text, style


def lines_piece(old, new):
    """Return the text that turns lines into others; the default style is set before and behind it."""
    text = []
    style = ()
    for row in range(len(new)):
        if old[row] != new[row]:
            piece, style = line_piece(row, old[row], new[row], style)
            text.extend(piece)
    if style != ():
        text.extend(style_piece(()))
    return text


def title_piece(old, new):
    """Return the command that sets the title, if it is another one."""
    if old == new:
        return []
    return [27] + codes("]2;") + list(new) + [7]


def visibility_piece(old, new):
    """Return the sequence that shows or hides the cursor, if that is another state."""
    if old == new:
        return []
    if new:
        return [27] + codes("[?25h")
    return [27] + codes("[?25l")


def difference(old, new):
    """Return the text that turns a plain terminal with one screen into a plain one with another."""
    text = []
    rows, columns = size_of(new)
    if size_of(old) != (rows, columns):
        text = size_piece(rows, columns)
        old = resized(old, rows, columns)
    lines, cursor, visible, title = old
    new_lines, new_cursor, new_visible, new_title = new
    pieces = lines_piece(lines, new_lines) + title_piece(title, new_title) + visibility_piece(visible, new_visible)
    # Writing lines moves the cursor, and may leave a new line pending.
    if pieces or cursor != new_cursor:
        row, column = new_cursor
        pieces.extend(place_piece(row, column))
    return text + pieces


def applied(screen, text):
    """Return the screen after a text was applied."""
    terminal = showing(screen)
    terminal.write(text)
    return terminal.screen()
