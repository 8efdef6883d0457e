import unittest

from fardesk.errors import NoSuchPacket, TooManyPackets
from fardesk.network import Network
from fardesk.packets import Packet, other_side
from tests.nets import (
    SIDES, arrives, closed_to, deliver_all, everything, inject, joined, last_row, open_from, phased, told,
)


class TestNew(unittest.TestCase):
    def test_two_closed_ends(self):
        for window in (1, 8, 32):
            network = Network([1, 2, 3], (4,), window)
            self.assertEqual(network.status("left"), ("closed", None, None, (1, 2, 3), 0, 0, 0))
            self.assertEqual(network.status("right"), ("closed", None, None, (4,), 0, 0, 0))
            for side in SIDES:
                self.assertIsNone(network.association(side))
                self.assertEqual((network.given(side), network.received(side), network.reports(side)), ([], [], []))
            self.assertEqual((network.packets_sent(), network.has_room()), (0, True))

    def test_ends_may_have_the_same_addresses(self):
        network = Network((1, 2), (2, 1), 8)
        self.assertEqual(open_from(network, "left"), ["answered", "echoed", "established", "established"])

    def test_two_networks_know_nothing_of_each_other(self):
        left, right = [1], [2]
        one = Network(left, right, 8)
        other = Network(left, right, 8)
        before = everything(other)
        open_from(one, "left")
        one.give("left", 0, (1,))
        one.set_addresses("right", (9,))
        self.assertEqual(everything(other), before)


class TestOwnership(unittest.TestCase):
    def test_lists_that_are_handed_in(self):
        left, right = [1, 3], [2]
        network = Network(left, right, 8)
        own, codes, numbers, frame = [5, 6], [7, 8], [1, 2, 3, 4], [9]
        network.set_addresses("left", own)
        open_from(network, "left")
        network.give("left", 0, codes)
        network.send_frame("left", numbers, frame)
        network.set_addresses("left", own)
        self.assertEqual((left, right, own, codes, numbers, frame), ([1, 3], [2], [5, 6], [7, 8], [1, 2, 3, 4], [9]))
        before = everything(network)
        for row in (left, right, own, codes, numbers, frame):
            row.append(11)
            row[0] = 12
        self.assertEqual(everything(network), before)

    def test_lists_that_are_returned(self):
        network = joined("left")
        network.give("left", 0, (1,))
        network.deliver(4)
        network.abort("left")
        before = everything(network)
        for side in SIDES:
            for rows in (network.given(side), network.received(side), network.reports(side)):
                rows.append(1)
                rows[0] = None
        self.assertEqual(everything(network), before)

    def test_kinds(self):
        network = Network([1], [2], 8)
        open_from(network, "left")
        network.give("left", 0, [1])
        arrives(network, "right", ("data", 3, None, 0, ()))
        for side in SIDES:
            self.assertIs(type(network.status(side)), tuple)
            self.assertIs(type(network.status(side)[3]), tuple)
            row = network.association(side)
            self.assertIs(type(row), tuple)
            self.assertEqual([type(row[place]) for place in (2, 6, 8)], [tuple] * 3)
            self.assertEqual([type(part) for part in (network.given(side), network.received(side))], [list] * 2)
            network.abort(side)
            self.assertIs(type(network.reports(side)[0]), tuple)
        self.assertIs(type(network.packet(0)), Packet)


class TestPackets(unittest.TestCase):
    def test_indices(self):
        network = Network((1,), (2,), 8)
        network.open_end("left", 2)
        network.open_end("right", 1)
        self.assertEqual(network.packets_sent(), 2)
        self.assertEqual([network.packet(place).sender for place in range(2)], ["left", "right"])
        for place in (-1, 2, 3, -2, 10 ** 9):
            for call in (network.packet, network.deliver):
                with self.assertRaises(NoSuchPacket) as caught:
                    call(place)
                self.assertEqual(caught.exception.place, place)
            with self.assertRaises(NoSuchPacket) as caught:
                network.answer_frame(place, 1)
            self.assertEqual(caught.exception.place, place)

    def test_no_packets(self):
        network = Network((1,), (2,), 8)
        for place in (0, -1):
            with self.assertRaises(NoSuchPacket):
                network.packet(place)

    def test_packets_stay_as_they_were(self):
        network = joined("left")
        rows = [network.packet(place).as_row() for place in range(4)]
        network.set_addresses("left", (9,))
        network.set_addresses("right", (8,))
        for side in SIDES:
            network.restart(side)
        self.assertEqual([network.packet(place).as_row() for place in range(4)], rows)

    def test_a_packet_arrives_any_number_of_times(self):
        network = joined("left")
        network.give("left", 0, (1,))
        self.assertEqual([network.deliver(4) for _ in range(3)], ["new", "known", "known"])
        self.assertEqual(network.packets_sent(), 8)

    def test_an_address_that_is_none_any_more(self):
        for side in SIDES:
            other = other_side(side)
            network = joined(side, (1, 3), (2, 4))
            goal = network.status(other)[3][0]
            network.give(side, 0, (1,))
            network.set_addresses(other, [9, network.status(other)[3][1]])
            before = everything(network)
            for place in (0, 2, 4):
                self.assertEqual(network.deliver(place), "no such address")
            self.assertEqual(everything(network), before)
            # When it is one again, all of them arrive.
            network.set_addresses(other, [9, goal])
            self.assertEqual(network.deliver(4), "new")
            self.assertEqual(network.deliver(2), "answered")

    def test_an_address_of_the_end_that_sent_it(self):
        network = Network((1,), (2,), 8)
        network.open_end("left", 1)
        self.assertEqual(network.deliver(0), "no such address")


class TestFrames(unittest.TestCase):
    def test_sending(self):
        for side in SIDES:
            network = joined(side, (1, 3), (2, 4))
            for _ in range(3):
                network.time_out(side)
            own, theirs = network.status(side)[3], network.association(side)[2]
            before = told(network)[:2]
            for numbers, codes in (([1, 2, 3, 4], [5]), ((0, 0, 0, 4294967295), ()), ([9, 8, 7, 6], (255,) * 10000)):
                self.assertEqual(network.send_frame(side, numbers, codes), 1)
                chunk = ("frame",) + tuple(numbers) + (tuple(codes),)
                self.assertEqual(last_row(network), (side, 1, 1, own[1], theirs[1], chunk))
            self.assertEqual(told(network)[:2], before)
            self.assertEqual(network.deliver(network.packets_sent() - 1), "frame")

    def test_in_each_state_of_closing(self):
        for closing in ("no", "asked", "sent", "received", "answered"):
            network = closed_to(closing, "left")
            self.assertEqual(network.send_frame("left", (1, 2, 3, 4), ()), 1)

    def test_answering(self):
        network = joined("left", (1, 3), (2, 4))
        network.time_out("right")
        network.send_frame("right", (1, 2, 3, 4), ())
        place = network.packets_sent() - 1
        before = told(network)[:2]
        self.assertEqual(network.packet(place).as_row()[3:5], (4, 1))
        self.assertEqual(network.answer_frame(place, 77), 1)
        self.assertEqual(last_row(network), ("left", 1, 1, 1, 4, ("frame_ack", 77)))
        self.assertEqual(told(network)[:2], before)
        self.assertEqual(network.deliver(place + 1), "frame_ack")

    def test_any_packet_can_be_answered(self):
        # Whatever has become of the association and of the addresses.
        network = joined("left")
        network.restart("left")
        network.restart("right")
        network.set_addresses("left", (9,))
        self.assertEqual(network.answer_frame(0, 5), 1)
        self.assertEqual(last_row(network), ("right", 0, 1, 2, 1, ("frame_ack", 5)))
        self.assertEqual(network.answer_frame(3, 4294967295), 1)
        self.assertEqual(last_row(network), ("left", 1, 1, 1, 2, ("frame_ack", 4294967295)))


class TestRecords(unittest.TestCase):
    def test_tags_of_several_associations(self):
        network = Network((1,), (2,), 8)
        # The right end makes a tag that is never used, so the tags are unlike.
        network.open_end("left", 2)
        network.deliver(0)
        network.abort("left")
        for _ in range(2):
            open_from(network, "left")
            network.give("left", 0, (1,))
            network.give("right", None, (2,))
            start = network.packets_sent()
            network.deliver(start - 2)
            network.deliver(start - 1)
            network.finish("left")
            network.finish("right")
            network.abort("left")
            network.deliver(network.packets_sent() - 1)
        one, two = (1, 0, 0, (1,)), (1, None, 0, (2,))
        self.assertEqual(network.given("left"), [(2, 2, one), (3, 3, one)])
        self.assertEqual(network.received("right"), [(2, 2, one), (3, 3, one)])
        self.assertEqual(network.given("right"), [(2, 2, two), (3, 3, two)])
        self.assertEqual(network.received("left"), [(2, 2, two), (3, 3, two)])
        self.assertEqual(network.reports("left"), [(2, 2, "aborted", ("unsure",)), (3, 3, "aborted", ("unsure",))])
        ended = "aborted by the other end"
        self.assertEqual(network.reports("right"), [(2, 2, ended, ("unsure",)), (3, 3, ended, ("unsure",))])

    def test_unlike_tags(self):
        network = Network((1,), (2,), 8)
        network.open_end("left", 2)
        network.deliver(0)
        network.deliver(0)
        deliver_all(network, 2)
        self.assertEqual([network.association(side)[:2] for side in SIDES], [(1, 2), (2, 1)])
        network.give("left", 0, (1,))
        network.deliver(network.packets_sent() - 1)
        network.abort("right")
        self.assertEqual(network.given("left"), [(1, 2, (1, 0, 0, (1,)))])
        self.assertEqual(network.received("right"), [(2, 1, (1, 0, 0, (1,)))])
        self.assertEqual(network.reports("right"), [(2, 1, "aborted", ())])

    def test_the_order_of_delivery(self):
        network = joined("left")
        for stream in (0, 0, None, 1):
            network.give("left", stream, ())
        for place in (7, 5, 6, 4):
            network.deliver(place)
        self.assertEqual([row[2][0] for row in network.given("left")], [1, 2, 3, 4])
        self.assertEqual([row[2][0] for row in network.received("right")], [4, 3, 1, 2])

    def test_waiting_messages_are_not_delivered(self):
        network = joined("left")
        network.give("left", 0, ())
        network.give("left", 0, ())
        network.deliver(5)
        self.assertEqual(network.received("right"), [])
        self.assertEqual(network.association("right")[7:11], (0, (2,), 1, 0))
        network.restart("right")
        self.assertEqual(network.received("right"), [])


class TestRoom(unittest.TestCase):
    def filled(self, many, side="left"):
        """A network with an association and so many packets."""
        network = joined(side)
        while network.packets_sent() < many:
            network.send_frame("left", (1, 2, 3, 4), ())
        return network

    def calls(self, network, side):
        """All calls that may send packets, with good and with bad arguments that are looked at only later."""
        return [
            lambda: network.open_end(side, 2), lambda: network.give(side, 0, ()), lambda: network.deliver(0),
            lambda: network.deliver(network.packets_sent() - 1), lambda: network.time_out(side),
            lambda: network.probe(side), lambda: network.set_addresses(side, (5,)), lambda: network.finish(side),
            lambda: network.abort(side), lambda: network.send_frame(side, (1, 2, 3, 4), ()),
        ]

    def test_3000_packets(self):
        self.assertTrue(self.filled(3000).has_room())
        for place, many in enumerate((None, 1, None, None, 0, 1, 1, 1, 1, 1)):
            network = self.filled(3000)
            if place == 0:
                network.restart("left")
                many = 1
            result = self.calls(network, "left")[place]()
            if many is not None:
                self.assertEqual(result, many)

    def test_3001_packets(self):
        network = self.filled(3001)
        self.assertFalse(network.has_room())
        before = told(network)
        for side in SIDES:
            for call in self.calls(network, side):
                with self.assertRaises(TooManyPackets):
                    call()
        self.assertEqual(told(network), before)
        # Also where the call would send nothing, or be refused for what is looked at later.
        for side in SIDES:
            network.restart(side)
        before = told(network)
        for side in SIDES:
            for call in self.calls(network, side):
                with self.assertRaises(TooManyPackets):
                    call()
        self.assertEqual(told(network), before)

    def test_a_packet_to_an_address_that_is_none(self):
        network = self.filled(2999)
        network.set_addresses("right", (9,))
        self.assertEqual(network.deliver(0), "no such address")
        network.set_addresses("right", (9,))
        with self.assertRaises(TooManyPackets):
            network.deliver(0)

    def test_a_last_call_that_sends_several_packets(self):
        network = self.filled(2992)
        for _ in range(8):
            network.give("left", 0, ())
        self.assertEqual((network.packets_sent(), network.has_room()), (3000, True))
        self.assertEqual(network.time_out("left"), 8)
        self.assertEqual((network.packets_sent(), network.has_room()), (3008, False))
        with self.assertRaises(TooManyPackets):
            network.time_out("left")
        self.assertEqual(network.packet(3007).as_row()[5], ("data", 8, 0, 7, ()))

    def test_what_is_not_refused(self):
        network = self.filled(3001)
        self.assertEqual(network.answer_frame(3000, 5), 1)
        self.assertEqual(network.answer_frame(0, 5), 1)
        self.assertEqual(network.packets_sent(), 3003)
        for side in SIDES:
            self.assertEqual(network.status(side)[0], "established")
            self.assertIsNotNone(network.association(side))
            self.assertEqual((network.given(side), network.received(side), network.reports(side)), ([], [], []))
            self.assertIsNone(network.restart(side))
            self.assertEqual(network.status(side)[0], "closed")
        self.assertEqual(network.packet(0).sender, "left")

    def test_injected_packets_count(self):
        # (The helper of these tests works as the network does.)
        network = phased("closed", "left")
        self.assertEqual(inject(network, "right", 4, 5, ("probe",)), "unknown")
        self.assertEqual(network.packets_sent(), 2)
