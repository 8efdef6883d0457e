"""Sequences that erase, insert, delete and scroll on a board."""

from fardesk.lines import blank_line, deleted, erased, inserted
from fardesk.parameters import count_at, number_at
from fardesk.scrolling import moved_down, moved_up


def erase_cells(board, start, end):
    """Erase cells in the line of the cursor."""
    board.lines[board.row] = erased(board.lines[board.row], start, end)


def erase_lines(board, start, end):
    """Erase the lines from start up to, but not including, end."""
    for row in range(start, end):
        board.lines[row] = blank_line(len(board.lines[row]))


def erase_in_line(board, numbers):
    """Erase the end, the beginning or all of the line of the cursor."""
    which = number_at(numbers, 0)
    columns = board.last_column() + 1
    if which == 0:
        erase_cells(board, board.column, columns)
    elif which == 1:
        erase_cells(board, 0, board.column + 1)
    elif which == 2:
        erase_cells(board, 0, columns)


def erase_in_screen(board, numbers):
    """Erase the end, the beginning or all of the screen, or empty the history."""
    which = number_at(numbers, 0)
    if which == 3:
        board.past = []
        return
    erase_in_line(board, numbers)
    if which == 1 or which == 2:
        erase_lines(board, 0, board.row)
    if which == 0 or which == 2:
        erase_lines(board, board.row + 1, len(board.lines))


def insert_cells(board, numbers):
    """Insert blank cells at the cursor."""
    board.lines[board.row] = inserted(board.lines[board.row], board.column, count_at(numbers, 0))


def delete_cells(board, numbers):
    """Delete cells from the cursor on."""
    board.lines[board.row] = deleted(board.lines[board.row], board.column, count_at(numbers, 0))


def erase_from_cursor(board, numbers):
    """Erase cells from the cursor on."""
    end = min(board.column + count_at(numbers, 0), board.last_column() + 1)
    erase_cells(board, board.column, end)


def is_between_margins(board):
    """Return whether the cursor is in a line between the margins."""
    return board.top <= board.row <= board.bottom


def insert_lines(board, numbers):
    """Insert blank lines at the line of the cursor."""
    if is_between_margins(board):
        board.lines = moved_down(board.lines, board.row, board.bottom, count_at(numbers, 0))
        board.column = 0


def delete_lines(board, numbers):
    """Remove lines from the line of the cursor on; they do not join the history."""
    if is_between_margins(board):
        board.lines = moved_up(board.lines, board.row, board.bottom, count_at(numbers, 0))
        board.column = 0


def scroll_up(board, numbers):
    """Scroll up."""
    board.scroll_up(count_at(numbers, 0))


def scroll_down(board, numbers):
    """Scroll down."""
    board.scroll_down(count_at(numbers, 0))


EDITS = {
    74: erase_in_screen,  # J
    75: erase_in_line,  # K
    64: insert_cells,  # @
    80: delete_cells,  # P
    88: erase_from_cursor,  # X
    76: insert_lines,  # L
    77: delete_lines,  # M
    83: scroll_up,  # S
    84: scroll_down,  # T
}


def is_edit(final):
    """Return whether sequences with this final erase, insert, delete or scroll."""
    return final in EDITS


def do_edit(board, numbers, final):
    """Erase, insert, delete or scroll."""
    edit = EDITS[final]
    edit(board, numbers)
