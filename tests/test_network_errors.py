import unittest

from fardesk.errors import (
    AlreadyClosed, AssociationClosing, DeskError, InvalidArgument, NoAssociation, NoSuchPacket, NotClosed,
    TooManyMessages, TooManyPackets,
)
from fardesk.network import Network
from tests.nets import SIDES, closed_to, everything, joined, phased
from tests.samples import GREATEST

OTHER_SIDES = ("", "Left", "right ", "both", "leftright")
ADDRESSES = (
    (), [], (1, 2, 3, 4, 5, 6, 7), [1, 2, 3, 4, 5, 6, 7], (1, 1), [4, 5, 4], (256,), (-1,), (1, 256), (True,),
    (1, False), ("1",), (None,), "1", "ab", 1, None, {1: 2}, ((1,),), [[1]],
)
OCTETS = (-1, 256, True, False, "1", None, (1,))
STREAMS = (-1, 16, 255, True, False, "0", (0,))
CODES = ((0,) * 201, [0] * 201, (256,), [-1], (True,), [1, False], ("1",), "ab", 1, None, ((1,),))
FRAMES = (
    ((1, 2, 3), ()), ((1, 2, 3, 4, 5), ()), ((), ()), ((1, 2, 3, GREATEST + 1), ()), ((-1, 2, 3, 4), ()),
    ((1, True, 3, 4), ()), ([1, 2, "3", 4], ()), ((1, 2, 3, 4), (0,) * 10001), ((1, 2, 3, 4), [256]),
    ((1, 2, 3, 4), (True,)), ((1, 2, 3, 4), "ab"), ("abcd", ()), (4, ()), (None, ()), ((1, 2, 3, 4), None),
    ((1, 2, 3, 4, ()), ()), ((1, 2, 3), (4,)),
)


def crowded(network):
    """The network with more than 3,000 packets."""
    packet = Network((1,), (2,), 8)
    packet.open_end("left", 2)
    network.wire.extend([packet.packet(0)] * (3001 - network.packets_sent()))
    return network


class ErrorCase(unittest.TestCase):
    def refused(self, network, error, call, name=None):
        """A call is refused with an error, and changes nothing."""
        before = everything(network)
        with self.assertRaises(DeskError) as caught:
            call(network)
        self.assertIs(type(caught.exception), error)
        if error is InvalidArgument:
            self.assertEqual(caught.exception.name, name)
        self.assertEqual(everything(network), before)

    def everywhere(self, error, call, name=None):
        """It is the first of all that is due, whatever the phase is, with room and without."""
        for phase in ("closed", "opening", "echoing", "established"):
            for side in SIDES:
                network = phased(phase, side)
                self.refused(network, error, call, name)
        self.refused(crowded(phased("closed", "left")), error, call, name)
        self.refused(crowded(phased("established", "left")), error, call, name)


class TestMaking(unittest.TestCase):
    def refused(self, name, *arguments):
        with self.assertRaises(InvalidArgument) as caught:
            Network(*arguments)
        self.assertEqual(caught.exception.name, name)

    def test_addresses(self):
        for bad in ADDRESSES:
            self.refused("addresses", bad, (1,), 8)
            self.refused("addresses", (1,), bad, 8)
            self.refused("addresses", bad, bad, 8)

    def test_window(self):
        for bad in (0, -1, 33, 1000, True, False, None, "8", (8,)):
            self.refused("window", (1,), (2,), bad)
            self.refused("addresses", (), (2,), bad)
            self.refused("addresses", (1,), (2, 2), bad)

    def test_right_ones(self):
        for addresses in ((0,), (255,), [1, 2, 3, 4, 5, 6], (0, 255)):
            for window in (1, 32):
                self.assertEqual(Network(addresses, addresses, window).status("right")[3], tuple(addresses))


class TestSides(ErrorCase):
    def test_another_string(self):
        for side in OTHER_SIDES:
            for call in (
                    lambda network: network.open_end(side, 256), lambda network: network.give(side, 16, "ab"),
                    lambda network: network.time_out(side), lambda network: network.probe(side),
                    lambda network: network.set_addresses(side, ()), lambda network: network.finish(side),
                    lambda network: network.abort(side), lambda network: network.restart(side),
                    lambda network: network.send_frame(side, (), ()), lambda network: network.status(side),
                    lambda network: network.association(side), lambda network: network.given(side),
                    lambda network: network.received(side), lambda network: network.reports(side)):
                self.refused(phased("closed", "left"), InvalidArgument, call, "side")
                self.refused(crowded(joined("left")), InvalidArgument, call, "side")


class TestOpening(ErrorCase):
    def test_address(self):
        for side in SIDES:
            for bad in OCTETS:
                self.everywhere(InvalidArgument, lambda network: network.open_end(side, bad), "address")

    def test_not_closed(self):
        for side in SIDES:
            for phase in ("opening", "echoing", "established"):
                self.refused(phased(phase, side), NotClosed, lambda network: network.open_end(side, 2))
                self.refused(crowded(phased(phase, side)), TooManyPackets, lambda network: network.open_end(side, 2))


class TestGiving(ErrorCase):
    def test_stream(self):
        for side in SIDES:
            for bad in STREAMS:
                self.everywhere(InvalidArgument, lambda network: network.give(side, bad, "ab"), "stream")

    def test_codes(self):
        for side in SIDES:
            for bad in CODES:
                self.everywhere(InvalidArgument, lambda network: network.give(side, None, bad), "codes")

    def test_no_association(self):
        for side in SIDES:
            for phase in ("closed", "opening", "echoing"):
                for call in (lambda network: network.give(side, 0, ()), lambda network: network.finish(side),
                             lambda network: network.probe(side),
                             lambda network: network.send_frame(side, (1, 2, 3, 4), ())):
                    self.refused(phased(phase, side), NoAssociation, call)
                    self.refused(crowded(phased(phase, side)), TooManyPackets, call)

    def test_closing(self):
        for side in SIDES:
            for closing in ("asked", "sent", "received", "answered"):
                for call in (lambda network: network.give(side, 0, ()), lambda network: network.finish(side)):
                    self.refused(closed_to(closing, side), AssociationClosing, call)
                    self.refused(crowded(closed_to(closing, side)), TooManyPackets, call)

    def test_500_messages(self):
        for side in SIDES:
            network = joined(side)
            for number in range(1, 501):
                self.assertEqual(network.give(side, 0, ()), number)
            self.refused(network, TooManyMessages, lambda network: network.give(side, None, ()))
            self.refused(network, InvalidArgument, lambda network: network.give(side, 16, ()), "stream")
            # It does not matter that they are acknowledged.
            place = 4
            while network.association(side)[5] < 500:
                network.deliver(place)
                place += 1
            self.refused(network, TooManyMessages, lambda network: network.give(side, 0, ()))
            network.finish(side)
            self.refused(network, AssociationClosing, lambda network: network.give(side, 0, ()))
            self.refused(crowded(network), TooManyPackets, lambda network: network.give(side, 0, ()))

    def test_500_messages_of_two_associations(self):
        network = joined("left")
        for _ in range(400):
            network.give("left", 0, ())
        network.restart("left")
        start = network.packets_sent()
        network.open_end("left", 2)
        for place in range(start, start + 4):
            network.deliver(place)
        for number in range(1, 501):
            self.assertEqual(network.give("left", 0, ()), number)
        self.refused(network, TooManyMessages, lambda network: network.give("left", 0, ()))


class TestOthers(ErrorCase):
    def test_addresses(self):
        for side in SIDES:
            for bad in ADDRESSES:
                self.everywhere(InvalidArgument, lambda network: network.set_addresses(side, bad), "addresses")

    def test_frames(self):
        for side in SIDES:
            for numbers, codes in FRAMES:
                self.everywhere(InvalidArgument, lambda network: network.send_frame(side, numbers, codes), "frame")

    def test_aborting(self):
        for side in SIDES:
            self.refused(phased("closed", side), AlreadyClosed, lambda network: network.abort(side))
            self.refused(crowded(phased("closed", side)), TooManyPackets, lambda network: network.abort(side))
            network = joined(side)
            network.abort(side)
            self.refused(network, AlreadyClosed, lambda network: network.abort(side))

    def test_indices(self):
        for place in (-1, 3001, 10 ** 9):
            network = crowded(joined("left"))
            self.refused(network, NoSuchPacket, lambda network: network.deliver(place))
            self.refused(network, NoSuchPacket, lambda network: network.packet(place))
            self.refused(network, NoSuchPacket, lambda network: network.answer_frame(place, 1))
