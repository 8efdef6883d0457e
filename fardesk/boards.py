"""What a terminal shows and remembers, and how the smallest steps change it."""

from fardesk.characters import width_of
from fardesk.lines import blank_line, inserted, put
from fardesk.screens import nearest, resized_lines
from fardesk.scrolling import moved_down, moved_up
from fardesk.tabs import first_stops, resized_stops

MOST_HISTORY = 200


class Board:
    """All of a terminal but what it has read of a sequence.

    `lines` are those of the current screen, `hidden` those of the one that is not current, `other`
    tells whether the other screen is current, and `past` is the history. A mode is True when it is on.
    """

    def __init__(self, rows, columns):
        self.begin(rows, columns)

    def begin(self, rows, columns):
        """Make everything as at first."""
        # A cursor needs a line, and a size beyond the ranges is no error.
        rows = max(1, rows)
        self.lines = [blank_line(columns)] * rows
        self.hidden = [blank_line(columns)] * rows
        self.other = False
        self.row = 0
        self.column = 0
        self.visible = True
        self.title = ()
        self.style = ()
        self.top = 0
        self.bottom = rows - 1
        self.wrapping = True
        self.inserting = False
        self.origin = False
        self.bracketing = False
        self.application = False
        self.pending = False
        self.stops = first_stops(columns)
        self.saved = ((0, 0), ())
        self.past = []

    def last_row(self):
        """Return the last line of the screen."""
        return len(self.lines) - 1

    def last_column(self):
        """Return the last column of the screen."""
        return len(self.lines[0]) - 1

    def is_usual(self):
        """Return whether margins, style and all modes but application are as at first."""
        if self.top != 0 or self.bottom != self.last_row() or self.style != ():
            return False
        return self.wrapping and not (self.inserting or self.origin or self.bracketing)

    def take_screen(self, screen):
        """Show a screen of the same size."""
        lines, (row, column), visible, title = screen
        self.lines = list(lines)
        self.move_to(row, column)
        self.visible = visible
        self.title = title

    def resize(self, rows, columns):
        """Take another size, or the same one again."""
        rows = max(1, rows)
        self.stops = resized_stops(self.stops, len(self.lines[0]), columns)
        self.lines = list(resized_lines(self.lines, rows, columns))
        self.hidden = list(resized_lines(self.hidden, rows, columns))
        self.move_to(self.row, self.column)
        self.top = 0
        self.bottom = rows - 1
        self.pending = False

    def move_to(self, row, column):
        """Bring the cursor to the nearest cell of the screen."""
        self.row = nearest(row, len(self.lines))
        self.column = nearest(column, len(self.lines[0]))

    def move_home(self):
        """Bring the cursor home, which depends on origin."""
        self.column = 0
        self.row = 0
        if self.origin:
            self.row = self.top

    def go_down(self):
        """Go one line down, or scroll up in the bottom margin line."""
        if self.row == self.bottom:
            self.scroll_up(1)
        else:
            self.move_to(self.row + 1, self.column)

    def go_up(self):
        """Go one line up, or scroll down in the top margin line."""
        if self.row == self.top:
            self.scroll_down(1)
        else:
            self.move_to(self.row - 1, self.column)

    def begin_line(self):
        """Go to column 0, and down."""
        self.column = 0
        self.go_down()

    def scroll_up(self, many):
        """Move the lines between the margins up; those of the main screen that leave it join the history."""
        if self.top == 0 and not self.other:
            gone = self.lines[:min(many, self.bottom + 1)]
            self.past = (self.past + gone)[-MOST_HISTORY:]
        self.lines = moved_up(self.lines, self.top, self.bottom, many)

    def scroll_down(self, many):
        """Move the lines between the margins down."""
        self.lines = moved_down(self.lines, self.top, self.bottom, many)

    def save(self):
        """Save the cursor and the style."""
        self.saved = ((self.row, self.column), self.style)

    def restore(self):
        """Restore the cursor and the style; the screen may have become smaller since they were saved."""
        (row, column), style = self.saved
        self.move_to(row, column)
        self.style = style

    def show_other(self):
        """Make the other screen current, with blank cells."""
        if not self.other:
            self.save()
            self.hidden = self.lines
            self.lines = [blank_line(len(self.lines[0]))] * len(self.lines)
            self.other = True

    def show_main(self):
        """Make the main screen current again."""
        if self.other:
            self.lines, self.hidden = self.hidden, self.lines
            self.other = False
            self.restore()

    def print_character(self, character):
        """Put a narrow or wide character at the cursor, and go behind it."""
        if self.pending:
            self.begin_line()
        width = width_of(character)
        if width == 2 and self.column == self.last_column():
            if not self.wrapping:
                return
            self.begin_line()
        line = self.lines[self.row]
        if self.inserting:
            line = inserted(line, self.column, width)
        self.lines[self.row] = put(line, self.column, character, self.style)
        behind = self.column + width
        self.pending = self.wrapping and behind > self.last_column()
        self.column = min(behind, self.last_column())
