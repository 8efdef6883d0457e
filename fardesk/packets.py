"""Packets, and the octets that they are on their way."""

from fardesk.chunks import FORMS, is_chunk, is_four, is_octet, kind_number
from fardesk.errors import InvalidArgument
from fardesk.octets import four_octets, two_octets

# The index of an end is the octet for it as the sender.
SIDES = ("left", "right")
UNORDERED = 255


def other_side(side):
    """Return the other end."""
    if side == "left":
        return "right"
    return "left"


class Packet:
    """A packet: the end that sent it, the tags of both ends, where it comes from and goes to, and a chunk."""

    def __init__(self, sender, source, target, *, origin, goal, chunk):
        if sender not in SIDES:
            raise InvalidArgument("sender")
        if not is_four(source):
            raise InvalidArgument("source")
        if not is_four(target):
            raise InvalidArgument("target")
        if not is_octet(origin):
            raise InvalidArgument("origin")
        if not is_octet(goal):
            raise InvalidArgument("goal")
        if not is_chunk(chunk):
            raise InvalidArgument("chunk")
        self.sender = sender
        self.source = source
        self.target = target
        self.origin = origin
        self.goal = goal
        self.chunk = chunk

    def as_row(self):
        """Return the tuple of all attributes."""
        return self.sender, self.source, self.target, self.origin, self.goal, self.chunk

    def answer(self, source, target, chunk):
        """Return a packet of the other end that goes back the way that this one came."""
        return Packet(other_side(self.sender), source, target, origin=self.goal, goal=self.origin, chunk=chunk)


def number_octets(number):
    """Return the octets of a four-octet number."""
    return four_octets(number)


def numbers_octets(numbers):
    """Return the octets of the numbers of an acknowledgement."""
    octets = [len(numbers)]
    for number in numbers:
        octets.extend(four_octets(number))
    return octets


def addresses_octets(addresses):
    """Return the octets of addresses."""
    return [len(addresses)] + list(addresses)


def cookie_octets(cookie):
    """Return the octets of a cookie."""
    tag, peer, addresses = cookie
    return four_octets(tag) + four_octets(peer) + addresses_octets(addresses)


def stream_octets(stream):
    """Return the octet of a stream."""
    if stream is None:
        return [UNORDERED]
    return [stream]


def codes_octets(row):
    """Return the octets of codes."""
    return two_octets(len(row)) + list(row)


WRITERS = {
    "number": number_octets,
    "numbers": numbers_octets,
    "addresses": addresses_octets,
    "cookie": cookie_octets,
    "stream": stream_octets,
    "place": number_octets,
    "message codes": codes_octets,
    "frame codes": codes_octets,
}


def chunk_octets(chunk):
    """Return the octets of the parts of a chunk."""
    form = FORMS[kind_number(chunk[0])]
    octets = []
    for place in range(1, len(form)):
        write = WRITERS[form[place]]
        octets.extend(write(chunk[place]))
    return octets


def packet_octets(packet):
    """Return the octets of a packet, a list."""
    octets = [SIDES.index(packet.sender), kind_number(packet.chunk[0])]
    octets = octets + four_octets(packet.source) + four_octets(packet.target) + [packet.origin, packet.goal]
    return octets + chunk_octets(packet.chunk)
