"""Reading a text character by character: what has been read so far is a state, a tuple."""

from fardesk.characters import kind_of

GROUND = ("ground",)
ESCAPE = ("escape",)
BETWEEN = ("between",)
INVALID = ("invalid",)

MOST_NUMBERS = 16
GREATEST_NUMBER = 9999
MOST_COMMAND = 42


def scan(state, character):
    """Return (state, event): the next state, and an event or None."""
    if state[0] == "command":
        return scan_command(state, character)
    if character == 24 or character == 26:
        return GROUND, None
    if character == 27:
        return ESCAPE, None
    if character < 32:
        return state, ("control", character)
    if state[0] == "ground":
        return scan_ground(character)
    if state[0] == "escape":
        return scan_escape(character)
    if state[0] == "sequence":
        return scan_sequence(state, character)
    return scan_ignored(state, character)


def scan_ground(character):
    """Read what is no control below 32, outside of everything."""
    if kind_of(character) == "control":
        return GROUND, None
    return GROUND, ("print", character)


def scan_escape(character):
    """Read the character that tells what an escape begins."""
    if character == 91:
        return ("sequence", False, (), True), None
    if character == 93:
        return ("command", (), False), None
    if character <= 47:
        return BETWEEN, None
    return GROUND, ("escape", character)


def scan_ignored(state, character):
    """Read on to the end of what has no effect: of an escape with more parts, or of a spoiled sequence."""
    first = 64
    if state == BETWEEN:
        first = 48
    if first <= character <= 126:
        return GROUND, None
    return state, None


def scan_sequence(state, character):
    """Read a parameter or the final of a sequence."""
    _, private, numbers, fresh = state
    if 48 <= character <= 57:
        return ("sequence", private, with_digit(numbers, character - 48), False), None
    if character == 59:
        return ("sequence", private, with_next_number(numbers), False), None
    if character == 63 and fresh:
        return ("sequence", True, numbers, False), None
    if 64 <= character <= 126:
        return GROUND, ("sequence", private, numbers[:MOST_NUMBERS], character)
    if character == 127:
        return state, None
    return INVALID, None


def with_digit(numbers, digit):
    """Return the numbers of a sequence after one more digit."""
    if len(numbers) > MOST_NUMBERS:
        return numbers
    if len(numbers) == 0 or numbers[-1] is None:
        return numbers[:-1] + (digit,)
    return numbers[:-1] + (min(GREATEST_NUMBER, numbers[-1] * 10 + digit),)


def with_next_number(numbers):
    """Return the numbers of a sequence after a semicolon."""
    if len(numbers) > MOST_NUMBERS:
        return numbers
    if len(numbers) == 0:
        return (None, None)
    return numbers + (None,)


def scan_command(state, character):
    """Read a character of a command; a backslash behind an escape ends it."""
    _, text, escaped = state
    if escaped and character != 92:
        return scan(ESCAPE, character)
    if escaped or character == 7:
        return GROUND, ("command", text)
    if character == 24 or character == 26:
        return GROUND, None
    if character == 27:
        return ("command", text, True), None
    if kind_of(character) == "control" or len(text) >= MOST_COMMAND:
        return state, None
    return ("command", text + (character,), False), None
