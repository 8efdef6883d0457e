"""Keys as the codes of messages."""

from fardesk.keys import KEY_NAMES, is_key

CHARACTER_FORM = 0
NAME_FORM = 1


def key_codes(key):
    """Return the codes of the message for a key."""
    if isinstance(key, str):
        return NAME_FORM, KEY_NAMES.index(key)
    return CHARACTER_FORM, key


def key_of(codes):
    """Return the key for which a tuple of octets stands, or None."""
    if len(codes) != 2:
        return None
    form, value = codes
    if form == CHARACTER_FORM and is_key(value):
        return value
    if form == NAME_FORM and value < len(KEY_NAMES):
        return KEY_NAMES[value]
    return None
