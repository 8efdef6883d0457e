"""Reading packets from their octets."""

from fardesk.chunks import (
    FORMS, MOST_ADDRESSES, MOST_BEYOND, MOST_FRAME, MOST_MESSAGE, are_addresses, is_octet, is_placed, is_stream,
)
from fardesk.errors import InvalidArgument, MalformedPacket
from fardesk.octets import OctetReader
from fardesk.packets import SIDES, UNORDERED, Packet


def read_number(reader):
    """Read a four-octet number."""
    return reader.four()


def read_numbers(reader):
    """Read the numbers of an acknowledgement."""
    return reader.fours(reader.limited(MOST_BEYOND))


def read_addresses(reader):
    """Read addresses, of which there is one at least, and no two are alike."""
    place = reader.place()
    addresses = reader.many(reader.limited(MOST_ADDRESSES))
    if not are_addresses(addresses):
        raise MalformedPacket(place)
    return addresses


def read_cookie(reader):
    """Read a cookie."""
    tag = reader.four()
    peer = reader.four()
    return tag, peer, read_addresses(reader)


def read_stream(reader):
    """Read a stream, or None for an unordered message."""
    place = reader.place()
    stream = reader.one()
    if stream == UNORDERED:
        return None
    if not is_stream(stream):
        raise MalformedPacket(place)
    return stream


def read_codes(reader, most):
    """Read codes; their number is looked at before they are read."""
    place = reader.place()
    many = reader.two()
    if many > most:
        raise MalformedPacket(place)
    return reader.many(many)


def read_message_codes(reader):
    """Read the codes of a message."""
    return read_codes(reader, MOST_MESSAGE)


def read_frame_codes(reader):
    """Read the codes of a frame."""
    return read_codes(reader, MOST_FRAME)


READERS = {
    "number": read_number,
    "numbers": read_numbers,
    "addresses": read_addresses,
    "cookie": read_cookie,
    "stream": read_stream,
    "place": read_number,
    "message codes": read_message_codes,
    "frame codes": read_frame_codes,
}


def read_chunk(reader, form):
    """Read the parts of a chunk with a form, and return the chunk."""
    chunk = (form[0],)
    for kind in form[1:]:
        place = reader.place()
        read = READERS[kind]
        chunk = chunk + (read(reader),)
        # The stream is the part before the place.
        if kind == "place" and not is_placed(chunk[-2], chunk[-1]):
            raise MalformedPacket(place)
    return chunk


def read_packet(octets):
    """Return the packet that a list or tuple of whole numbers stands for."""
    for octet in octets:
        if not is_octet(octet):
            raise InvalidArgument("octets")
    reader = OctetReader(octets)
    sender = SIDES[reader.limited(len(SIDES) - 1)]
    form = FORMS[reader.limited(len(FORMS) - 1)]
    source = reader.four()
    target = reader.four()
    origin = reader.one()
    goal = reader.one()
    chunk = read_chunk(reader, form)
    reader.finish()
    return Packet(sender, source, target, origin=origin, goal=goal, chunk=chunk)
