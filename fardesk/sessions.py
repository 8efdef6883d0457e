"""Sessions: a desk at the right end of a network, and its seat at the left end."""

from fardesk.chunks import is_number
from fardesk.desks import Desk
from fardesk.errors import InvalidArgument
from fardesk.keyforms import key_codes, key_of
from fardesk.keys import is_key
from fardesk.network import Network
from fardesk.screens import LEAST_COLUMNS, MOST_COLUMNS, MOST_ROWS, blank_screen
from fardesk.seats import Seat
from fardesk.states import Teller

KEY_STREAM = 0
# With so many states the teller can take one more and still make a datagram.
MOST_KEPT = 40


class Session:
    """A session.

    `echoed` is the number of keys done in the association that the right end has, or had last. The rows of
    `typed_rows`, `done_rows` and `look_rows` begin with the tags of the association at the left end.
    """

    def __init__(self, program, *, rows=4, columns=12, seat=(1,), desk=(2,), window=8):
        if not is_number(rows, MOST_ROWS) or rows == 0:
            raise InvalidArgument("rows")
        if not is_number(columns, MOST_COLUMNS) or columns < LEAST_COLUMNS:
            raise InvalidArgument("columns")
        self.network = Network(seat, desk, window)
        self.seat = Seat(rows, columns)
        self.desk = Desk(program, rows, columns)
        self.blank = blank_screen(rows, columns)
        self.teller = Teller(self.blank)
        self.echoed = 0
        self.typed_rows = []
        self.done_rows = []
        self.look_rows = []

    def connect(self, side, address):
        """Let a closed end ask at an address."""
        return self.network.open_end(side, address)

    def probe(self, side):
        """Let an end probe all pairs of addresses."""
        return self.network.probe(side)

    def set_addresses(self, side, own):
        """Give an end other addresses."""
        return self.network.set_addresses(side, own)

    def finish(self, side):
        """Let an end close its association."""
        return self.network.finish(side)

    def abort(self, side):
        """Let an end give up its association, or its asking for one."""
        return self.network.abort(side)

    def restart(self, side):
        """Let an end lose its memory of the network."""
        return self.network.restart(side)

    def packets_sent(self):
        """Return the number of packets ever sent."""
        return self.network.packets_sent()

    def packet(self, place):
        """Return the packet with an index."""
        return self.network.packet(place)

    def status(self, side):
        """Return the status of an end."""
        return self.network.status(side)

    def association(self, side):
        """Return what an end knows of its association, a tuple, or None."""
        return self.network.association(side)

    def reports(self, side):
        """Return the list of the reports of an end."""
        return self.network.reports(side)

    def press(self, key):
        """Type a key, and return the number of its message."""
        if not is_key(key):
            raise InvalidArgument("key")
        number = self.network.give("left", KEY_STREAM, key_codes(key))
        self.seat.press(key)
        tag, peer = self.network.association("left")[:2]
        self.typed_rows.append((tag, peer, key))
        return number

    def deliver(self, place):
        """Let the packet with an index arrive, and return the result."""
        packet = self.network.packet(place)
        result = self.network.deliver(place)
        if packet.sender == "left":
            self.bring_to_desk(packet, result)
        else:
            self.bring_to_seat(place, packet, result)
        return result

    def bring_to_desk(self, packet, result):
        """Let the desk do what a packet brings about that has arrived at the right end."""
        if result == "established":
            self.teller = Teller(self.blank)
            self.echoed = 0
            self.show(False)
        elif result == "new":
            if self.do_keys() > 0:
                self.show(False)
        elif result == "frame_ack":
            self.teller.acknowledge(packet.chunk[1])
            self.show(False)

    def do_keys(self):
        """Do the keys that were delivered and are not done, and return how many they are."""
        rows = self.network.received("right")[len(self.done_rows):]
        for tag, peer, message in rows:
            key = key_of(message[3])
            self.desk.press(key)
            self.done_rows.append((peer, tag, key))
        self.echoed += len(rows)
        return len(rows)

    def show(self, again):
        """Send the screen of the desk if it is new; `again` tells to send a state again that may be lost."""
        if self.network.association("right") is None or not self.network.has_room():
            return
        before = self.teller.numbers()[0]
        if len(self.teller.kept()) <= MOST_KEPT:
            self.teller.tell(self.desk.screen(), self.echoed)
        newest, acknowledged, _ = self.teller.numbers()
        if newest > before or (again and newest > acknowledged):
            datagram = self.teller.datagram()
            self.network.send_frame("right", datagram[:4], datagram[4])

    def bring_to_seat(self, place, packet, result):
        """Let the seat do what a packet brings about that has arrived at the left end."""
        if result == "established":
            self.seat.begin()
        elif result == "frame":
            self.hear(packet)
            number, _ = self.seat.numbers()
            self.network.answer_frame(place, number)

    def hear(self, packet):
        """Let the seat hear the datagram of a frame."""
        _, serial, base, number, echo, row = packet.chunk
        if self.seat.hear((serial, base, number, echo, list(row))):
            self.look_rows.append((packet.target, packet.source, echo, self.seat.sure()))

    def time_out(self, side):
        """Let an end time out, and return the number of packets sent."""
        before = self.network.packets_sent()
        self.network.time_out(side)
        if side == "right":
            self.show(True)
        return self.network.packets_sent() - before

    def desk_screen(self):
        """Return the screen of the desk."""
        return self.desk.screen()

    def sure(self):
        """Return the sure screen of the seat."""
        return self.seat.sure()

    def shown(self):
        """Return the screen that the seat shows."""
        return self.seat.shown()

    def guesses(self):
        """Return how many foretellings were right, how many were wrong, and how many are pending."""
        return self.seat.guesses()

    def echo(self):
        """Return the echo of the desk, and that of the seat."""
        _, heard = self.seat.numbers()
        return self.echoed, heard

    def typed(self):
        """Return the list of the keys typed."""
        return list(self.typed_rows)

    def done(self):
        """Return the list of the keys done."""
        return list(self.done_rows)

    def looks(self):
        """Return the list of the sure screens that have come."""
        return list(self.look_rows)
