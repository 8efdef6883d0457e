"""Octets, which are whole numbers from 0 to 255, and reading numbers from them."""

from fardesk.errors import MalformedPacket


def two_octets(n):
    """Return the two octets of a number, the higher one first."""
    return [(n >> 8) & 255, n & 255]


def four_octets(n):
    """Return the four octets of a number, the highest one first."""
    return two_octets(n >> 16) + two_octets(n)


class OctetReader:
    """Reads octets from the first one on; `next_place` is the index of the next one."""

    def __init__(self, octets):
        self.octets = tuple(octets)
        self.next_place = 0

    def place(self):
        """Return the index of the next octet."""
        return self.next_place

    def many(self, size):
        """Read so many octets, a tuple."""
        end = self.next_place + size
        if end > len(self.octets):
            raise MalformedPacket(len(self.octets))
        octets = self.octets[self.next_place:end]
        self.next_place = end
        return octets

    def one(self):
        """Read an octet."""
        return self.many(1)[0]

    def two(self):
        """Read a number of two octets."""
        high, low = self.many(2)
        return (high << 8) | low

    def four(self):
        """Read a number of four octets."""
        high = self.two()
        return (high << 16) | self.two()

    def limited(self, most):
        """Read an octet that is at most this."""
        place = self.next_place
        octet = self.one()
        if octet > most:
            raise MalformedPacket(place)
        return octet

    def fours(self, size):
        """Read so many numbers of four octets, a tuple."""
        numbers = []
        for _ in range(size):
            numbers.append(self.four())
        return tuple(numbers)

    def finish(self):
        """Raise an error if there is an octet left."""
        if self.next_place < len(self.octets):
            raise MalformedPacket(self.next_place)
