"""Networks: two ends, and every packet that was ever sent between them."""

from fardesk.acts import (
    ask, begin_closing, change_addresses, forget_all, give_message, give_up, probe_pairs, time_out_end,
)
from fardesk.arrivals import arrive
from fardesk.chunks import are_addresses, is_chunk, is_message_codes, is_number, is_octet, is_stream
from fardesk.ends import End
from fardesk.errors import (
    AlreadyClosed, AssociationClosing, InvalidArgument, NoAssociation, NoSuchPacket, NotClosed, TooManyMessages,
    TooManyPackets,
)
from fardesk.packets import SIDES, other_side

MOST_WINDOW = 32
MOST_PACKETS = 3000
MOST_GIVEN = 500


def as_tuple(row):
    """Return a list as a tuple; what is no list is returned as it is, to be looked at."""
    if isinstance(row, list):
        return tuple(row)
    return row


def own_addresses(row):
    """Return the addresses of a list or tuple, a tuple."""
    row = as_tuple(row)
    if not are_addresses(row):
        raise InvalidArgument("addresses")
    return row


def frame_of(numbers, codes):
    """Return the frame with these parts."""
    numbers = as_tuple(numbers)
    if not isinstance(numbers, tuple):
        raise InvalidArgument("frame")
    frame = ("frame",) + numbers + (as_tuple(codes),)
    if not is_chunk(frame):
        raise InvalidArgument("frame")
    return frame


def check_open(end):
    """Raise the error for an end in whose association nothing more can be given."""
    if end.association is None:
        raise NoAssociation()
    if end.association.closing != "no":
        raise AssociationClosing()


class Network:
    """A network: `ends` are its two ends, `wire` is the list of its packets."""

    def __init__(self, left, right, window):
        left = own_addresses(left)
        right = own_addresses(right)
        if not is_number(window, MOST_WINDOW) or window == 0:
            raise InvalidArgument("window")
        self.wire = []
        self.ends = {"left": End("left", left, window, self.wire), "right": End("right", right, window, self.wire)}

    def end_at(self, side):
        """Return an end."""
        if side not in SIDES:
            raise InvalidArgument("side")
        return self.ends[side]

    def check_room(self):
        """Raise an error if no call is made any more that may send packets."""
        if not self.has_room():
            raise TooManyPackets()

    def open_end(self, side, address):
        """Let a closed end ask at an address."""
        end = self.end_at(side)
        if not is_octet(address):
            raise InvalidArgument("address")
        self.check_room()
        if end.phase != "closed":
            raise NotClosed()
        before = len(self.wire)
        ask(end, address)
        return len(self.wire) - before

    def give(self, side, stream, codes):
        """Give a message and return its number."""
        end = self.end_at(side)
        if not is_stream(stream):
            raise InvalidArgument("stream")
        codes = as_tuple(codes)
        if not is_message_codes(codes):
            raise InvalidArgument("codes")
        self.check_room()
        check_open(end)
        if len(end.association.given) >= MOST_GIVEN:
            raise TooManyMessages()
        return give_message(end, stream, codes)

    def packet(self, place):
        """Return the packet with an index."""
        if not is_number(place, len(self.wire) - 1):
            raise NoSuchPacket(place)
        return self.wire[place]

    def deliver(self, place):
        """Let the packet with an index arrive, and return the result."""
        packet = self.packet(place)
        self.check_room()
        end = self.ends[other_side(packet.sender)]
        if packet.goal not in end.own:
            return "no such address"
        return arrive(end, packet)

    def time_out(self, side):
        """Let an end time out."""
        end = self.end_at(side)
        self.check_room()
        before = len(self.wire)
        time_out_end(end)
        return len(self.wire) - before

    def probe(self, side):
        """Let an end probe all pairs of addresses."""
        end = self.end_at(side)
        self.check_room()
        if end.association is None:
            raise NoAssociation()
        before = len(self.wire)
        probe_pairs(end)
        return len(self.wire) - before

    def set_addresses(self, side, own):
        """Give an end other addresses."""
        end = self.end_at(side)
        own = own_addresses(own)
        self.check_room()
        before = len(self.wire)
        change_addresses(end, own)
        return len(self.wire) - before

    def finish(self, side):
        """Let an end close its association."""
        end = self.end_at(side)
        self.check_room()
        check_open(end)
        before = len(self.wire)
        begin_closing(end)
        return len(self.wire) - before

    def abort(self, side):
        """Let an end give up its association, or its asking for one."""
        end = self.end_at(side)
        self.check_room()
        if end.phase == "closed":
            raise AlreadyClosed()
        before = len(self.wire)
        give_up(end)
        return len(self.wire) - before

    def restart(self, side):
        """Let an end lose its memory."""
        forget_all(self.end_at(side))

    def send_frame(self, side, numbers, codes):
        """Let an end send a frame in its association."""
        end = self.end_at(side)
        frame = frame_of(numbers, codes)
        self.check_room()
        if end.association is None:
            raise NoAssociation()
        end.send(frame)
        return 1

    def answer_frame(self, place, number):
        """Answer the frame that is the packet with an index."""
        packet = self.packet(place)
        self.wire.append(packet.answer(packet.target, packet.source, ("frame_ack", number)))
        return 1

    def packets_sent(self):
        """Return the number of packets ever sent."""
        return len(self.wire)

    def has_room(self):
        """Return whether more packets can be sent."""
        return len(self.wire) <= MOST_PACKETS

    def status(self, side):
        """Return the phase, both tags, the own addresses, the tags made and spent, and the turn of an end."""
        end = self.end_at(side)
        return end.phase, end.tag, end.peer, end.own, end.made, end.spent, end.turn

    def association(self, side):
        """Return what an end knows of its association, a tuple, or None."""
        joined = self.end_at(side).association
        if joined is None:
            return None
        sending = (len(joined.given), joined.sent, joined.acked, tuple(joined.beyond))
        arriving = (joined.up_to, tuple(joined.arrived), len(joined.waiting), len(joined.delivered))
        return (joined.tag, joined.peer, joined.paths) + sending + arriving + (joined.closing,)

    def given(self, side):
        """Return the list of the messages given at an end, with the tags of their associations."""
        return list(self.end_at(side).given)

    def received(self, side):
        """Return the list of the messages delivered at an end, with the tags of their associations."""
        return list(self.end_at(side).received)

    def reports(self, side):
        """Return the list of the reports of an end."""
        return list(self.end_at(side).reports)
