"""Foretelling: what keys will probably do is shown before the far end has told it.

A foretelling is a tuple (row, column, character, cursor): the cell, the character that it will have,
and the cursor behind it.
"""

from fardesk.characters import kind_of
from fardesk.errors import RefusedError
from fardesk.lines import put
from fardesk.screens import size_of

MOST_PENDING = 64
FORETOLD_STYLE = (4,)


def foretelling_for(key, cursor, columns):
    """Return the foretelling for a key that is pressed where the cursor is, or None."""
    row, column = cursor
    if key == "back":
        if column == 0:
            return None
        return row, column - 1, 32, (row, column - 1)
    if isinstance(key, str) or kind_of(key) != "narrow" or column == columns - 1:
        return None
    return row, column, key, (row, column + 1)


def has_character(screen, row, column, character):
    """Return whether a screen has a cell with a character, in any style."""
    rows, columns = size_of(screen)
    return row < rows and column < columns and screen[0][row][column][0] == character


def count_right(decided, screen):
    """Return how many of the decided foretellings are right."""
    expected = {}
    for row, column, character, _ in decided:
        expected[(row, column)] = character
    right = 0
    for row, column, _, _ in decided:
        if has_character(screen, row, column, expected[(row, column)]):
            right += 1
    return right


class Foreteller:
    """Shows the true screen with what the keys that are not echoed will probably do.

    `pending` has the foretellings for the first keys that are not echoed, one for each, in order.
    """

    def __init__(self, screen):
        self.true_screen = screen
        self.pressed = 0
        self.echoed = 0
        self.pending = []

    def all_foretold(self):
        """Return whether all keys that are not echoed are foretold."""
        return len(self.pending) == self.pressed - self.echoed

    def cursor(self):
        """Return the foretold cursor."""
        if self.pending:
            return self.pending[-1][3]
        return self.true_screen[1]

    def press(self, key):
        """Take a key, and return its number."""
        _, columns = size_of(self.true_screen)
        foretelling = foretelling_for(key, self.cursor(), columns)
        if foretelling is not None and self.all_foretold() and len(self.pending) < MOST_PENDING:
            self.pending.append(foretelling)
        self.pressed += 1
        return self.pressed

    def update(self, screen, echo):
        """Take a new true screen, and return how many foretellings are right now, and how many wrong."""
        if echo < self.echoed:
            raise RefusedError("echo must not decrease")
        if echo > self.pressed:
            raise RefusedError("unknown key")
        decided = self.pending[:echo - self.echoed]
        right = count_right(decided, screen)
        if right == len(decided) and self.goes_on(screen, decided):
            self.pending = self.pending[len(decided):]
        else:
            self.pending = []
        self.true_screen = screen
        self.echoed = echo
        return right, len(decided) - right

    def goes_on(self, screen, decided):
        """Return whether a new true screen has the size and the cursor that were foretold."""
        cursor = self.true_screen[1]
        if decided:
            cursor = decided[-1][3]
        return size_of(screen) == size_of(self.true_screen) and screen[1] == cursor

    def numbers(self):
        """Return the numbers of keys, echoed keys and pending foretellings, and whether all are foretold."""
        return self.pressed, self.echoed, len(self.pending), self.all_foretold()

    def screen(self):
        """Return the true screen with the pending foretellings."""
        lines, _, visible, title = self.true_screen
        shown = list(lines)
        for row, column, character, _ in self.pending:
            shown[row] = put(shown[row], column, character, FORETOLD_STYLE)
        return tuple(shown), self.cursor(), visible, title
