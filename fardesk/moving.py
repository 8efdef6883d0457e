"""Sequences that only move the cursor of a board."""

from fardesk.parameters import count_at
from fardesk.tabs import next_stop, stop_before


def up(board, numbers):
    """Go up, but not out of the margins."""
    row = board.row - count_at(numbers, 0)
    if board.row >= board.top:
        row = max(row, board.top)
    board.move_to(row, board.column)


def down(board, numbers):
    """Go down, but not out of the margins."""
    row = board.row + count_at(numbers, 0)
    if board.row <= board.bottom:
        row = min(row, board.bottom)
    board.move_to(row, board.column)


def right(board, numbers):
    """Go right."""
    board.move_to(board.row, board.column + count_at(numbers, 0))


def left(board, numbers):
    """Go left."""
    board.move_to(board.row, board.column - count_at(numbers, 0))


def down_to_beginning(board, numbers):
    """Go down, and to column 0."""
    down(board, numbers)
    board.column = 0


def up_to_beginning(board, numbers):
    """Go up, and to column 0."""
    up(board, numbers)
    board.column = 0


def to_column(board, numbers):
    """Go to a column, which is counted from 1."""
    board.move_to(board.row, count_at(numbers, 0) - 1)


def to_line(board, numbers):
    """Go to a line, which is counted from 1, with origin on from the top margin."""
    row = count_at(numbers, 0) - 1
    if board.origin:
        row = min(board.top + row, board.bottom)
    board.move_to(row, board.column)


def to_cell(board, numbers):
    """Go to a line and a column."""
    to_line(board, numbers)
    board.move_to(board.row, count_at(numbers, 1) - 1)


def tab_right(board, numbers):
    """Go so many tab stops to the right."""
    # There are not more stops than columns, so further steps change nothing.
    for _ in range(min(count_at(numbers, 0), board.last_column())):
        board.column = next_stop(board.stops, board.column, board.last_column())


def tab_left(board, numbers):
    """Go so many tab stops to the left."""
    for _ in range(min(count_at(numbers, 0), board.last_column())):
        board.column = stop_before(board.stops, board.column)


MOVES = {
    65: up,  # A
    66: down,  # B
    101: down,  # e
    67: right,  # C
    97: right,  # a
    68: left,  # D
    69: down_to_beginning,  # E
    70: up_to_beginning,  # F
    71: to_column,  # G
    96: to_column,  # the grave accent
    100: to_line,  # d
    72: to_cell,  # H
    102: to_cell,  # f
    73: tab_right,  # I
    90: tab_left,  # Z
}


def is_move(final):
    """Return whether sequences with this final move the cursor."""
    return final in MOVES


def do_move(board, numbers, final):
    """Move the cursor."""
    move = MOVES[final]
    move(board, numbers)
