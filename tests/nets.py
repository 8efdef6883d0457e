"""What several tests of networks use."""

from fardesk.network import Network
from fardesk.packets import Packet, other_side

SIDES = ("left", "right")


def told(network):
    """All that a network tells, but its packets, in lists that nobody else has."""
    return [(network.status(side), network.association(side), list(network.given(side)), list(network.received(side)),
             list(network.reports(side))) for side in SIDES] + [network.packets_sent(), network.has_room()]


def everything(network):
    """All that a network tells."""
    return told(network) + rows_since(network, 0)


def rows_since(network, start):
    """The packets from an index on, as rows."""
    return [network.packet(place).as_row() for place in range(start, network.packets_sent())]


def chunks_since(network, start):
    return [row[5] for row in rows_since(network, start)]


def last_row(network):
    return network.packet(network.packets_sent() - 1).as_row()


def inject(network, sender, source, target, chunk, origin=None, goal=None):
    """Let a packet arrive that no end has sent, and return the result; it counts among the packets."""
    if origin is None:
        origin = network.status(sender)[3][0]
    if goal is None:
        goal = network.status(other_side(sender))[3][0]
    network.wire.append(Packet(sender, source, target, origin=origin, goal=goal, chunk=chunk))
    return network.deliver(network.packets_sent() - 1)


def deliver_all(network, start):
    """Let all packets from an index on arrive once, in order, and return the results."""
    results = []
    place = start
    while place < network.packets_sent():
        results.append(network.deliver(place))
        place += 1
    return results


def open_from(network, side, address=None):
    """Open an association from an end, over the first addresses."""
    start = network.packets_sent()
    if address is None:
        address = network.status(other_side(side))[3][0]
    network.open_end(side, address)
    return deliver_all(network, start)


def joined(side="left", left=(1,), right=(2,), window=8):
    """A network with an association that was opened from an end."""
    network = Network(left, right, window)
    assert open_from(network, side) == ["answered", "echoed", "established", "established"]
    return network


def phased(phase, side, left=(1,), right=(2,), window=8):
    """A network in which an end is in a phase."""
    if phase == "established":
        return joined(side, left, right, window)
    network = Network(left, right, window)
    if phase != "closed":
        network.open_end(side, network.status(other_side(side))[3][0])
    if phase == "echoing":
        network.deliver(0)
        network.deliver(1)
    assert network.status(side)[0] == phase
    return network


def phase_of(network, side):
    return network.status(side)[0]


def closing_of(network, side):
    return network.association(side)[-1]


def closed_to(closing, side, left=(1,), right=(2,)):
    """A network in whose association an end has a state of closing; in "asked" and "received" a message is in flight."""
    network = joined(side, left, right)
    if closing in ("asked", "received"):
        network.give(side, 0, (7,))
    if closing in ("asked", "sent"):
        network.finish(side)
    if closing in ("received", "answered"):
        network.finish(other_side(side))
        network.deliver(network.packets_sent() - 1)
    assert closing_of(network, side) == closing
    return network


def arrives(network, side, chunk):
    """Let a chunk of the association with the tags 1 arrive at an end, and return the result."""
    return inject(network, other_side(side), 1, 1, chunk)
