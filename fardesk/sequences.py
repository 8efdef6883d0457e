"""What sequences do to a board, and the replies to them."""

from fardesk.characters import codes, digits
from fardesk.editing import do_edit, is_edit
from fardesk.moving import do_move, is_move
from fardesk.parameters import count_at, number_at
from fardesk.screens import is_size
from fardesk.styles import turned
from fardesk.tabs import without_stop


def do_sequence(board, private, numbers, final):
    """Do a sequence and return the reply, a text."""
    if private:
        do_private(board, numbers, final)
        return []
    if final == ord("n"):
        return place_reply(board, numbers)
    if final == ord("c"):
        return kind_reply(numbers)
    if final == ord("m"):
        set_style(board, numbers)
    elif final == ord("g"):
        clear_stops(board, numbers)
    else:
        do_ending(board, numbers, final)
    return []


def do_ending(board, numbers, final):
    """Do a sequence after which no new line is pending, if its final has an effect."""
    if is_move(final):
        do_move(board, numbers, final)
    elif is_edit(final):
        do_edit(board, numbers, final)
    elif final == ord("h") or final == ord("l"):
        set_inserting(board, numbers, final == ord("h"))
    elif final == ord("r"):
        set_margins(board, numbers)
    elif final == ord("t"):
        set_size(board, numbers)
    else:
        return
    board.pending = False


def place_reply(board, numbers):
    """Return the reply to a question for the state or the place of the cursor."""
    question = number_at(numbers, 0)
    if question == 5:
        return [27] + codes("[0n")
    if question != 6:
        return []
    row = board.row
    if board.origin:
        row = max(0, row - board.top)
    return [27] + codes("[") + digits(row + 1) + codes(";") + digits(board.column + 1) + codes("R")


def kind_reply(numbers):
    """Return the reply to the question what kind of terminal this is."""
    if number_at(numbers, 0) == 0:
        return [27] + codes("[?6c")
    return []


def set_style(board, numbers):
    """Change the style."""
    if len(numbers) == 0:
        numbers = (0,)
    board.style = turned(board.style, [number_at(numbers, place) for place in range(len(numbers))])


def clear_stops(board, numbers):
    """Remove the tab stop at the cursor, or all of them."""
    which = number_at(numbers, 0)
    if which == 0:
        board.stops = without_stop(board.stops, board.column)
    elif which == 3:
        board.stops = ()


def set_inserting(board, numbers, on):
    """Turn inserting on or off."""
    if 4 in numbers:
        board.inserting = on


def set_margins(board, numbers):
    """Set the margins, and bring the cursor home."""
    first = count_at(numbers, 0)
    last = number_at(numbers, 1)
    if last == 0:
        last = len(board.lines)
    if first < last <= len(board.lines):
        board.top = first - 1
        board.bottom = last - 1
        board.move_home()


def set_size(board, numbers):
    """Resize the board."""
    rows = number_at(numbers, 1)
    columns = number_at(numbers, 2)
    if number_at(numbers, 0) == 8 and is_size(rows, columns):
        board.resize(rows, columns)


def do_private(board, numbers, final):
    """Do a private sequence."""
    if final == ord("h") or final == ord("l"):
        for number in numbers:
            set_private(board, number, final == ord("h"))
        board.pending = False


def set_private(board, number, on):
    """Turn what one number of a private sequence names on or off."""
    if number == 1:
        board.application = on
    elif number == 6:
        board.origin = on
        board.move_home()
    elif number == 7:
        board.wrapping = on
    elif number == 25:
        board.visible = on
    elif number == 2004:
        board.bracketing = on
    elif number == 1049 and on:
        board.show_other()
    elif number == 1049:
        board.show_main()
