"""What controls, escapes and commands do to a board."""

from fardesk.tabs import next_stop, with_stop


def do_control(board, control):
    """Do a control below 32."""
    if control == 8:
        board.move_to(board.row, board.column - 1)
    elif control == 9:
        board.column = next_stop(board.stops, board.column, board.last_column())
    elif control in (10, 11, 12):
        board.go_down()
    elif control == 13:
        board.column = 0
    else:
        return
    board.pending = False


def do_escape(board, character):
    """Do the escape with this character."""
    if character == ord("7"):
        board.save()
    elif character == ord("H"):
        board.stops = with_stop(board.stops, board.column)
    else:
        do_moving_escape(board, character)


def do_moving_escape(board, character):
    """Do an escape after which no new line is pending."""
    if character == ord("8"):
        board.restore()
    elif character == ord("D"):
        board.go_down()
    elif character == ord("E"):
        board.begin_line()
    elif character == ord("M"):
        board.go_up()
    elif character == ord("c"):
        board.begin(len(board.lines), len(board.lines[0]))
    else:
        return
    board.pending = False


def do_command(board, text):
    """Do the command with this text, a tuple; only titles have an effect."""
    if text[:2] == (ord("0"), ord(";")) or text[:2] == (ord("2"), ord(";")):
        board.title = text[2:]
