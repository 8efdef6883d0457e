"""The errors of the package."""


class DeskError(ValueError):
    """The base class of all errors of the package."""


class InvalidArgument(DeskError):
    """An argument is invalid; name is the word that the description of the call gives."""

    def __init__(self, name):
        self.name = name


class RefusedError(DeskError):
    """A call is refused; reason is a text."""

    def __init__(self, reason):
        self.reason = reason


class MalformedPacket(DeskError):
    """Octets are not a packet; place is the index at which that shows."""

    def __init__(self, place):
        self.place = place


class NoSuchPacket(DeskError):
    """No packet has this index; place is the index."""

    def __init__(self, place):
        self.place = place


class TooManyPackets(DeskError):
    """The network has no room for more packets."""


class TooManyMessages(DeskError):
    """No more messages can be given in this association."""


class NotClosed(DeskError):
    """The end is not closed."""


class AlreadyClosed(DeskError):
    """The end is closed."""


class NoAssociation(DeskError):
    """The end has no association."""


class AssociationClosing(DeskError):
    """The association is being closed."""


class NoWay(DeskError):
    """The ends are not joined over this pair of addresses."""
