"""Associations, which join both ends, as one end has them."""


class Association:
    """An association at one end.

    `given` are the messages given here: those up to the number `sent` have been sent, those up to
    `acked` and those in `beyond` are acknowledged. Of the messages of the other end those up to the
    number `up_to` and those in `arrived` have arrived, and are in `waiting` or in `delivered`.
    """

    def __init__(self, tag, peer, paths):
        self.tag = tag
        self.peer = peer
        self.paths = tuple(paths)
        self.given = []
        self.sent = 0
        self.acked = 0
        self.beyond = []
        self.up_to = 0
        self.arrived = []
        self.waiting = []
        self.delivered = []
        self.closing = "no"

    def message(self, number):
        """Return the given message with a number."""
        return self.given[number - 1]

    def has_tags(self, tag, peer):
        """Return whether these are the tags of this end and of the other one."""
        return self.tag == tag and self.peer == peer

    def all_acked(self):
        """Return whether all given messages are acknowledged."""
        return self.acked >= len(self.given)


def of_stream(messages, stream):
    """Return the list of the messages with a stream (None: the unordered ones), in order."""
    return [message for message in messages if message[1] == stream]


def next_message(association, stream, codes):
    """Return the message that giving on a stream would add."""
    place = 0
    if stream is not None:
        place = len(of_stream(association.given, stream))
    return len(association.given) + 1, stream, place, tuple(codes)


def gathered(up_to, numbers):
    """Return the number up to which all are there, and the ascending list of the others beyond it.

    All numbers up to `up_to` are there, and those of the list, which may have doubles and any order.
    """
    others = [number for number in sorted(set(numbers)) if number > up_to]
    while others and others[0] == up_to + 1:
        up_to = others.pop(0)
    return up_to, others
