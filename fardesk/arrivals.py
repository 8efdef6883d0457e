"""What happens when a packet arrives at an end of a network."""

from fardesk.delivering import is_new, take_message
from fardesk.sending import take_ack


def take_init(end, packet):
    """The other end asks for an association."""
    # Both ends can ask at once: then the asking of the left end goes first.
    if end.side == "left" and end.phase in ("opening", "echoing"):
        return "ignored"
    tag = end.make_tag()
    cookie = (tag, packet.source, packet.chunk[1])
    end.answer(packet, (tag, packet.source), ("init_ack", end.own, cookie))
    return "answered"


def take_init_ack(end, packet):
    """The other end answers the asking with a cookie."""
    if end.phase != "opening" or end.tag != packet.target:
        return "ignored"
    _, addresses, cookie = packet.chunk
    end.phase = "echoing"
    end.asked = None
    end.paths = addresses
    end.cookie = cookie
    end.peer = cookie[0]
    end.send_echo()
    return "echoed"


def take_echo(end, packet):
    """A cookie that this end has made comes back."""
    tag, peer, addresses = packet.chunk[1]
    if end.has_association(tag, peer):
        end.answer(packet, (tag, peer), ("echo_ack",))
        return "answered"
    if tag <= end.spent:
        end.answer(packet, (tag, peer), ("gone",))
        return "refused"
    if end.association is not None:
        end.end_association("replaced")
    end.begin(tag, peer, addresses)
    end.spent = tag
    end.reply(packet, ("echo_ack",))
    return "established"


def take_echoing(end, packet):
    """A packet with the tags of the association that this end is about to begin."""
    kind = packet.chunk[0]
    if kind == "echo_ack":
        end.spend_all()
        end.begin(end.tag, end.peer, end.paths)
        return "established"
    if kind == "gone" or kind == "abort":
        end.close()
        return "refused"
    return "ignored"


def take_foreign(end, packet):
    """A packet with tags that this end does not know."""
    # Whatever may itself come from an end that does not know the tags is not answered.
    if packet.chunk[0] in ("gone", "abort", "shutdown_done", "echo_ack"):
        return "ignored"
    end.answer(packet, (packet.target, packet.source), ("gone",))
    return "unknown"


def take_data(end, packet):
    """A message arrives."""
    association = end.association
    row = packet.chunk[1:]
    result = "known"
    if is_new(association, row[0], end.window):
        many = len(association.delivered)
        take_message(association, row)
        end.received.extend([(end.tag, end.peer, message) for message in association.delivered[many:]])
        result = "new"
    end.reply(packet, ("ack", association.up_to, tuple(association.arrived)))
    return result


def take_acknowledgement(end, packet):
    """Messages are acknowledged."""
    _, up_to, beyond = packet.chunk
    take_ack(end.association, up_to, beyond)
    end.go_on()
    return "acknowledged"


def take_probe(end, packet):
    """The other end tries a pair of addresses."""
    end.reply(packet, ("probe_ack",))
    return "answered"


def take_probe_ack(end, packet):
    """A pair of addresses works: it is the one to take from now on."""
    paths = end.association.paths
    if packet.goal in end.own and packet.origin in paths:
        end.turn = end.own.index(packet.goal) + len(end.own) * paths.index(packet.origin)
    return "path"


def take_addresses(end, packet):
    """The other end has other addresses."""
    _, serial, addresses = packet.chunk
    if serial > end.serial:
        end.serial = serial
        end.association.paths = addresses
    end.reply(packet, ("addresses_ack", serial))
    return "answered"


def take_addresses_ack(end, packet):
    """The other end knows the own addresses."""
    end.confirmed = max(end.confirmed, packet.chunk[1])
    return "acknowledged"


def take_gone(end, packet):
    """The other end does not know the association."""
    if end.association.closing == "answered":
        end.end_association("complete")
    else:
        end.end_association("gone")
    return "ended"


def take_abort(end, packet):
    """The other end has ended the association at once."""
    end.end_association("aborted by the other end")
    return "ended"


def take_shutdown(end, packet):
    """The other end has no more to send."""
    association = end.association
    if association.closing == "received":
        return "ignored"
    if association.closing == "answered":
        end.send(("shutdown_ack",))
        return "answered"
    association.closing = "received"
    end.go_on()
    return "closing"


def take_shutdown_ack(end, packet):
    """The other end has no more to send, either."""
    if end.association.closing not in ("sent", "answered"):
        return "ignored"
    end.reply(packet, ("shutdown_done",))
    end.end_association("complete")
    return "ended"


def take_shutdown_done(end, packet):
    """The other end has ended the association."""
    if end.association.closing != "answered":
        return "ignored"
    end.end_association("complete")
    return "ended"


def take_frame(end, packet):
    """A frame arrives, for whoever uses the network."""
    return "frame"


def take_frame_ack(end, packet):
    """The answer to a frame arrives, for whoever uses the network."""
    return "frame_ack"


def take_late(end, packet):
    """An acknowledgement of an echo comes once more."""
    return "ignored"


OPENING_TAKERS = {"init": take_init, "init_ack": take_init_ack, "echo": take_echo}
ASSOCIATION_TAKERS = {
    "echo_ack": take_late,
    "data": take_data,
    "ack": take_acknowledgement,
    "probe": take_probe,
    "probe_ack": take_probe_ack,
    "addresses": take_addresses,
    "addresses_ack": take_addresses_ack,
    "gone": take_gone,
    "abort": take_abort,
    "shutdown": take_shutdown,
    "shutdown_ack": take_shutdown_ack,
    "shutdown_done": take_shutdown_done,
    "frame": take_frame,
    "frame_ack": take_frame_ack,
}


def arrive(end, packet):
    """Let a packet arrive at an own address of an end, and return the result."""
    kind = packet.chunk[0]
    if kind in OPENING_TAKERS:
        take = OPENING_TAKERS[kind]
    elif end.has_association(packet.target, packet.source):
        take = ASSOCIATION_TAKERS[kind]
    elif end.phase == "echoing" and (end.tag, end.peer) == (packet.target, packet.source):
        take = take_echoing
    else:
        take = take_foreign
    return take(end, packet)
