"""Terminals, which show what a program writes."""

from fardesk.boards import Board
from fardesk.controls import do_command, do_control, do_escape
from fardesk.keys import key_text, pasted_text
from fardesk.scanner import scan
from fardesk.screens import size_of
from fardesk.sequences import do_sequence


def do_event(board, event):
    """Let a board do what a scanner has read, and return the reply, a text."""
    kind = event[0]
    if kind == "sequence":
        _, private, numbers, final = event
        return do_sequence(board, private, numbers, final)
    if kind == "print":
        board.print_character(event[1])
    elif kind == "control":
        do_control(board, event[1])
    elif kind == "escape":
        do_escape(board, event[1])
    else:
        do_command(board, event[1])
    return []


class Terminal:
    """A terminal: a board, and the state of reading."""

    def __init__(self, rows, columns):
        self.board = Board(rows, columns)
        self.state = ("ground",)

    def write(self, text):
        """Read a text and return the replies, joined, a text."""
        replies = []
        for character in text:
            self.state, event = scan(self.state, character)
            if event is not None:
                replies.extend(do_event(self.board, event))
        return replies

    def screen(self):
        """Return the screen."""
        board = self.board
        return tuple(board.lines), (board.row, board.column), board.visible, board.title

    def modes(self):
        """Return a dict of all that the screen and the history do not show."""
        board = self.board
        return {
            "style": board.style,
            "margins": (board.top, board.bottom),
            "wrapping": board.wrapping,
            "inserting": board.inserting,
            "origin": board.origin,
            "bracketing": board.bracketing,
            "application": board.application,
            "pending": board.pending,
            "stops": board.stops,
            "other": board.other,
            "saved": board.saved,
            "state": self.state,
        }

    def is_plain(self):
        """Return whether it is plain: a difference of screens can be written to it."""
        board = self.board
        return board.is_usual() and not board.other and not board.pending and self.state == ("ground",)

    def resize(self, rows, columns):
        """Take another size."""
        self.board.resize(rows, columns)

    def history(self):
        """Return the list of the lines of the history, the oldest one first."""
        return list(self.board.past)

    def press(self, key):
        """Return the text of a key."""
        return key_text(key, self.board.application)

    def paste(self, text):
        """Return the text of a pasted text."""
        return pasted_text(text, self.board.bracketing)


def showing(screen):
    """Return a new plain terminal with a screen."""
    rows, columns = size_of(screen)
    terminal = Terminal(rows, columns)
    board = terminal.board
    board.take_screen(screen)
    return terminal
