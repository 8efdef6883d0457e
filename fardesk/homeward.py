"""Bringing all keys to the desk, and its screen to the seat, over one pair of addresses that works."""

from fardesk.errors import NoWay


def is_joined(left, right):
    """Return whether both ends have the same association, which neither of them is closing."""
    if left is None or right is None:
        return False
    return left[0] == right[1] and left[1] == right[0] and left[-1] == "no" and right[-1] == "no"


def is_pair(session, here, there):
    """Return whether both ends are joined over an address of the left end and one of the right end."""
    left = session.association("left")
    right = session.association("right")
    if not is_joined(left, right):
        return False
    knows_here = here in session.status("left")[3] and here in right[2]
    return knows_here and there in session.status("right")[3] and there in left[2]


def travels(packet, here, there):
    """Return whether a packet travels over a pair."""
    if packet.sender == "left":
        return packet.origin == here and packet.goal == there
    return packet.origin == there and packet.goal == here


def many_pairs(session, side):
    """Return how many pairs of an own address and a path an end has."""
    return len(session.status(side)[3]) * len(session.association(side)[2])


def bring_from(session, side, here, there):
    """Let an end time out once for each of its pairs, and return how many packets have arrived."""
    arrived = 0
    for _ in range(many_pairs(session, side)):
        place = session.packets_sent()
        session.time_out(side)
        # Packets that are sent meanwhile arrive, too.
        while place < session.packets_sent():
            if travels(session.packet(place), here, there):
                session.deliver(place)
                arrived += 1
            place += 1
    return arrived


def bring_home(session, here, there):
    """Bring everything home over a pair, and return how many packets have arrived."""
    if not is_pair(session, here, there):
        raise NoWay()
    arrived = bring_from(session, "left", here, there)
    return arrived + bring_from(session, "right", here, there)
