"""What several tests of terminals use."""

from fardesk.terminals import Terminal

ESC = "\x1b"
CSI = "\x1b["


def text(string):
    return [ord(sign) for sign in string]


def made(rows, columns, string=""):
    """A terminal that has read a string, to which there was no reply."""
    terminal = Terminal(rows, columns)
    assert terminal.write(text(string)) == []
    return terminal


def wrote(terminal, string):
    """The replies to a string, as a string."""
    return "".join(chr(character) for character in terminal.write(text(string)))


def line_picture(line):
    return "".join("~" if character == 0 else chr(character) for character, _ in line)


def picture(terminal):
    """The lines of the screen as strings, with ~ for right halves."""
    return [line_picture(line) for line in terminal.screen()[0]]


def past(terminal):
    """The lines of the history as strings."""
    return [line_picture(line) for line in terminal.history()]


def cursor(terminal):
    return terminal.screen()[1]


def pending(terminal):
    return terminal.modes()["pending"]


def everything(terminal):
    return terminal.screen(), terminal.modes(), terminal.history(), terminal.is_plain()


def filled_text(rows, columns):
    """A text that puts another narrow character into each cell, and leaves a new line pending."""
    return "".join(chr(48 + place) for place in range(rows * columns))


def filled(rows, columns, string=""):
    """A terminal with another narrow character in each cell."""
    return made(rows, columns, filled_text(rows, columns) + string)


def filled_picture(rows, columns):
    whole = filled_text(rows, columns)
    return [whole[start:start + columns] for start in range(0, rows * columns, columns)]


def at(row, column):
    """The sequence that brings the cursor to a cell (with origin off)."""
    return f"{CSI}{row + 1};{column + 1}H"


def look(rows, columns, string=""):
    """The screen of a terminal that has read a string."""
    return made(rows, columns, string).screen()


def string_of(codes):
    """A text as a string."""
    return "".join(chr(character) for character in codes)
