"""One end of a network: what it knows, and how it sends, opens and ends associations."""

from fardesk.associations import Association
from fardesk.packets import Packet
from fardesk.sending import release, report_of


class End:
    """An end of a network.

    `own` are its addresses, `made` is the number of tags made, `spent` the greatest one that is spent.
    `wire` is the list of all packets of the network, to which it adds those that it sends.

    What the phase has, otherwise None: `tag`, unless it is closed; `asked`, the address that it asks at,
    when it is opening; `cookie` and `paths` when it is echoing; `peer`, the tag of the other end, when it
    is echoing or established; `association` when it is established.

    Of the changes of own addresses in the association, which are so many as `changes`, those up to
    `confirmed` are acknowledged; `serial` is that of the last change of the other end that was taken over.
    """

    def __init__(self, side, own, window, wire):
        self.side = side
        self.own = own
        self.window = window
        self.wire = wire
        self.made = 0
        self.spent = 0
        self.turn = 0
        self.given = []
        self.received = []
        self.reports = []
        self.close()

    def close(self):
        """Make the phase closed; the turn and the tags stay."""
        self.phase = "closed"
        self.tag = None
        self.peer = None
        self.asked = None
        self.cookie = None
        self.paths = None
        self.association = None
        self.changes = 0
        self.confirmed = 0
        self.serial = 0

    def make_tag(self):
        """Return a new tag."""
        self.made += 1
        return self.made

    def spend_all(self):
        """Let no tag that was made be taken into use any more."""
        self.spent = self.made

    def own_at(self, turn):
        """Return the own address of a turn."""
        return self.own[turn % len(self.own)]

    def pair(self, paths):
        """Return the pair of the turn and these paths."""
        return self.own_at(self.turn), paths[self.turn // len(self.own) % len(paths)]

    def pairs(self):
        """Return the list of all pairs of an own address and a path of the association."""
        return [(own, path) for path in self.association.paths for own in self.own]

    def send_over(self, pair, target, chunk):
        """Send a chunk from the first to the second address of a pair, with the tag as the source."""
        origin, goal = pair
        self.wire.append(Packet(self.side, self.tag, target, origin=origin, goal=goal, chunk=chunk))

    def send_init(self):
        """Ask for an association."""
        self.send_over((self.own_at(self.turn), self.asked), 0, ("init", self.own))

    def send_echo(self):
        """Send the cookie back."""
        self.send_over(self.pair(self.paths), self.peer, ("echo", self.cookie))

    def send(self, chunk):
        """Send a chunk in the association."""
        self.send_over(self.pair(self.association.paths), self.peer, chunk)

    def answer(self, packet, tags, chunk):
        """Answer a packet, with these tags as the source and the target."""
        source, target = tags
        self.wire.append(packet.answer(source, target, chunk))

    def reply(self, packet, chunk):
        """Answer a packet in the association."""
        self.answer(packet, (self.tag, self.peer), chunk)

    def has_association(self, tag, peer):
        """Return whether there is an association with these tags."""
        return self.association is not None and self.association.has_tags(tag, peer)

    def begin(self, tag, peer, paths):
        """Begin an association."""
        self.close()
        self.phase = "established"
        self.tag = tag
        self.peer = peer
        self.association = Association(tag, peer, paths)
        self.turn = 0

    def end_association(self, ended):
        """Let the association be over; it ended so."""
        self.reports.append(report_of(self.association, ended))
        self.close()

    def go_on(self):
        """Send what can be sent now: messages, and the next step of closing behind the last one."""
        association = self.association
        for number in release(association, self.window):
            self.send(("data",) + association.message(number))
        if association.all_acked() and association.closing == "asked":
            association.closing = "sent"
            self.send(("shutdown",))
        elif association.all_acked() and association.closing == "received":
            association.closing = "answered"
            self.send(("shutdown_ack",))
