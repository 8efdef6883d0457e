"""What an end of a network does by itself."""

from fardesk.associations import next_message
from fardesk.sending import in_flight


def ask(end, address):
    """Ask for an association at an address of the other end."""
    # While the left end asks it ignores the other end's asking, so it takes up none of its older tags either.
    if end.side == "left":
        end.spend_all()
    end.tag = end.make_tag()
    end.asked = address
    end.turn = 0
    end.phase = "opening"
    end.send_init()


def give_message(end, stream, codes):
    """Give a message on a stream, and return its number."""
    message = next_message(end.association, stream, codes)
    end.association.given.append(message)
    end.given.append((end.tag, end.peer, message))
    end.go_on()
    return message[0]


def send_addresses(end):
    """Send the own addresses, with the number of the changes in the association."""
    end.send(("addresses", end.changes, end.own))


def send_again(end):
    """Send all of the association again that is not acknowledged."""
    association = end.association
    for number in in_flight(association):
        end.send(("data",) + association.message(number))
    if end.confirmed < end.changes:
        send_addresses(end)
    if association.closing == "sent":
        end.send(("shutdown",))
    elif association.closing == "answered":
        end.send(("shutdown_ack",))


def time_out_end(end):
    """Take the next turn, and send again what has no answer."""
    if end.phase == "closed":
        return
    end.turn += 1
    if end.phase == "opening":
        end.send_init()
    elif end.phase == "echoing":
        end.send_echo()
    else:
        send_again(end)


def probe_pairs(end):
    """Send a probe over every pair of an own address and a path."""
    for pair in end.pairs():
        end.send_over(pair, end.peer, ("probe",))


def change_addresses(end, own):
    """Take other own addresses, and tell the other end of the association."""
    end.own = own
    if end.association is not None:
        end.changes += 1
        send_addresses(end)


def begin_closing(end):
    """Ask for the end of the association, behind all given messages."""
    end.association.closing = "asked"
    end.go_on()


def give_up(end):
    """End the association at once, or give up asking for one."""
    if end.association is None:
        end.close()
        return
    end.send(("abort",))
    end.end_association("aborted")


def forget_all(end):
    """Lose the memory of all but the addresses and the tags made."""
    end.spend_all()
    end.turn = 0
    end.close()
