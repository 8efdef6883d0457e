"""Chunks, which are what packets carry, and the parts of which they are made."""

MOST_OCTET = 255
MOST_NUMBER = 4294967295
MOST_ADDRESSES = 6
MOST_STREAM = 15
MOST_MESSAGE = 200
MOST_FRAME = 10000
MOST_BEYOND = 32

# The forms of the chunks: the name of the chunk and the kinds of its parts; the index is the kind number.
FORMS = (
    ("init", "addresses"),
    ("init_ack", "addresses", "cookie"),
    ("echo", "cookie"),
    ("echo_ack",),
    ("data", "number", "stream", "place", "message codes"),
    ("ack", "number", "numbers"),
    ("probe",),
    ("probe_ack",),
    ("addresses", "number", "addresses"),
    ("addresses_ack", "number"),
    ("gone",),
    ("abort",),
    ("shutdown",),
    ("shutdown_ack",),
    ("shutdown_done",),
    ("frame", "number", "number", "number", "number", "frame codes"),
    ("frame_ack", "number"),
)


def is_number(n, most):
    """Return whether a value is a whole number from 0 to most; a bool is not a whole number."""
    return isinstance(n, int) and not isinstance(n, bool) and 0 <= n <= most


def are_numbers(row, longest, most):
    """Return whether a value is a tuple of at most so many numbers from 0 to most."""
    if not isinstance(row, tuple) or len(row) > longest:
        return False
    for n in row:
        if not is_number(n, most):
            return False
    return True


def is_octet(n):
    """Return whether a value is an octet."""
    return is_number(n, MOST_OCTET)


def is_four(n):
    """Return whether a value is a four-octet number."""
    return is_number(n, MOST_NUMBER)


def are_fours(row):
    """Return whether a value is the tuple of the numbers of an acknowledgement."""
    return are_numbers(row, MOST_BEYOND, MOST_NUMBER)


def is_codes(row, most):
    """Return whether a value is a tuple of at most so many octets."""
    return are_numbers(row, most, MOST_OCTET)


def is_message_codes(row):
    """Return whether a value is the codes of a message."""
    return is_codes(row, MOST_MESSAGE)


def is_frame_codes(row):
    """Return whether a value is the codes of a frame."""
    return is_codes(row, MOST_FRAME)


def are_addresses(row):
    """Return whether a value is addresses: a tuple of unlike octets."""
    return are_numbers(row, MOST_ADDRESSES, MOST_OCTET) and len(row) > 0 and len(set(row)) == len(row)


def is_cookie(row):
    """Return whether a value is a cookie."""
    if not isinstance(row, tuple) or len(row) != 3:
        return False
    return is_four(row[0]) and is_four(row[1]) and are_addresses(row[2])


def is_stream(stream):
    """Return whether a value is a stream, or None for an unordered message."""
    return stream is None or is_number(stream, MOST_STREAM)


def is_placed(stream, place):
    """Return whether a message with this stream can have this place."""
    return stream is not None or place == 0


CHECKS = {
    "number": is_four,
    "numbers": are_fours,
    "addresses": are_addresses,
    "cookie": is_cookie,
    "stream": is_stream,
    "place": is_four,
    "message codes": is_message_codes,
    "frame codes": is_frame_codes,
}


def kind_number(name):
    """Return the kind number of the chunks with a name, or None if there are none."""
    for number, form in enumerate(FORMS):
        if form[0] == name:
            return number
    return None


def has_form(chunk, form):
    """Return whether a tuple has parts of the kinds of a form."""
    if len(chunk) != len(form):
        return False
    for place in range(1, len(form)):
        check = CHECKS[form[place]]
        if not check(chunk[place]):
            return False
    return True


def is_chunk(chunk):
    """Return whether a value is a chunk."""
    if not isinstance(chunk, tuple) or len(chunk) == 0:
        return False
    number = kind_number(chunk[0])
    if number is None or not has_form(chunk, FORMS[number]):
        return False
    return chunk[0] != "data" or is_placed(chunk[2], chunk[3])
