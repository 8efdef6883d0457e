"""Keys, and the texts that a program reads when they are pressed or a text is pasted."""

from fardesk.characters import codes, is_character, kind_of

KEY_NAMES = (
    "enter", "tab", "back", "escape",
    "up", "down", "right", "left", "home", "end",
    "insert", "delete", "page up", "page down",
)
SINGLE_KEYS = {"enter": 13, "tab": 9, "back": 127, "escape": 27}
MOVING_KEYS = {"up": "A", "down": "B", "right": "C", "left": "D", "home": "H", "end": "F"}
NUMBERED_KEYS = {"insert": "2", "delete": "3", "page up": "5", "page down": "6"}


def is_key(value):
    """Return whether a whole number or a string is a key."""
    if isinstance(value, str):
        return value in KEY_NAMES
    return is_character(value) and kind_of(value) != "control"


def key_text(key, application):
    """Return the text of a key; application is the mode of the terminal."""
    if not isinstance(key, str):
        return [key]
    if key in SINGLE_KEYS:
        return [SINGLE_KEYS[key]]
    if key in NUMBERED_KEYS:
        return [27] + codes("[" + NUMBERED_KEYS[key] + "~")
    if application:
        return [27] + codes("O" + MOVING_KEYS[key])
    return [27] + codes("[" + MOVING_KEYS[key])


def pasted_text(text, bracketing):
    """Return the text of a pasted text; bracketing is the mode of the terminal."""
    kept = [character for character in text if kind_of(character) != "control" or character in (9, 10)]
    if bracketing:
        return [27] + codes("[200~") + kept + [27] + codes("[201~")
    return kept
