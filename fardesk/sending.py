"""Sending the messages that were given in an association, and what becomes of them."""

from fardesk.associations import gathered, of_stream


def release(association, window):
    """Send the messages that the window lets through, and return the list of their numbers."""
    last = min(len(association.given), association.acked + window)
    numbers = list(range(association.sent + 1, last + 1))
    # A lesser window than before takes nothing back.
    association.sent = max(association.sent, last)
    return numbers


def is_acked(association, number):
    """Return whether a number is acknowledged."""
    return number <= association.acked or number in association.beyond


def in_flight(association):
    """Return the list of the numbers that were sent and are not acknowledged."""
    numbers = range(association.acked + 1, association.sent + 1)
    return [number for number in numbers if number not in association.beyond]


def take_ack(association, up_to, beyond):
    """Take an acknowledgement; what is acknowledged stays so."""
    up_to = max(association.acked, up_to)
    association.acked, association.beyond = gathered(up_to, association.beyond + list(beyond))


def are_earlier_acked(association, number):
    """Return whether all messages of the stream of a message that were given before it are acknowledged."""
    stream = association.message(number)[1]
    for message in of_stream(association.given[:number - 1], stream):
        if not is_acked(association, message[0]):
            return False
    return True


def fate_of(association, number):
    """Return the fate of a given message: "unsent", "delivered" or "unsure"."""
    if number > association.sent:
        return "unsent"
    if not is_acked(association, number):
        return "unsure"
    if association.message(number)[1] is None or are_earlier_acked(association, number):
        return "delivered"
    return "unsure"


def report_of(association, ended):
    """Return the report of an association that ended so."""
    fates = [fate_of(association, number) for number in range(1, len(association.given) + 1)]
    return association.tag, association.peer, ended, tuple(fates)
