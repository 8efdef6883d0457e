import unittest

from fardesk.network import Network
from fardesk.packets import other_side
from tests.nets import (
    SIDES, arrives, chunks_since, closed_to, closing_of, everything, joined, last_row, phased, rows_since, told,
)

PHASES = ("closed", "opening", "echoing", "established")


class ActCase(unittest.TestCase):
    def sends(self, network, many, act, *arguments):
        """A call sends so many packets, which it returns; the rows of them."""
        start = network.packets_sent()
        self.assertEqual(act(*arguments), many)
        rows = rows_since(network, start)
        self.assertEqual(len(rows), many)
        return rows

    def chunks(self, network, act, *arguments):
        start = network.packets_sent()
        many = act(*arguments)
        chunks = chunks_since(network, start)
        self.assertEqual(many, len(chunks))
        return chunks


class TestTimingOut(ActCase):
    def test_closed(self):
        for side in SIDES:
            for network in (phased("closed", side), joined(side, (1, 3))):
                if network.association(side):
                    network.time_out(side)
                    network.abort(side)
                before = everything(network)
                self.assertEqual(network.time_out(side), 0)
                self.assertEqual(everything(network), before)

    def test_opening(self):
        for side in SIDES:
            network = Network((1, 3), (2, 4), 8)
            network.open_end(side, 7)
            own = network.status(side)[3]
            for turn in (1, 2, 3):
                rows = self.sends(network, 1, network.time_out, side)
                self.assertEqual(rows, [(side, 1, 0, own[turn % 2], 7, ("init", own))])
                self.assertEqual(network.status(side)[4:], (1, 0, turn))

    def test_opening_with_other_addresses(self):
        network = phased("opening", "right", (1,), (2, 4))
        network.set_addresses("right", (6, 8, 9))
        rows = self.sends(network, 1, network.time_out, "right")
        self.assertEqual(rows, [("right", 1, 0, 8, 1, ("init", (6, 8, 9)))])

    def test_echoing(self):
        for side in SIDES:
            network = phased("echoing", side, (1, 3), (2, 4, 6))
            own, theirs = network.status(side)[3], network.status(other_side(side))[3]
            for turn in range(1, 8):
                rows = self.sends(network, 1, network.time_out, side)
                goal = theirs[turn // len(own) % len(theirs)]
                self.assertEqual(rows, [(side, 1, 1, own[turn % len(own)], goal, ("echo", (1, 1, own)))])
                self.assertEqual(network.status(side)[6], turn)
            # The cookie is what the other end made of the addresses that were told when asking.
            network.set_addresses(side, (9,))
            rows = self.sends(network, 1, network.time_out, side)
            self.assertEqual(rows, [(side, 1, 1, 9, theirs[8 % len(theirs)], ("echo", (1, 1, own)))])

    def test_nothing_to_send(self):
        for side in SIDES:
            network = joined(side)
            before = told(network)
            self.assertEqual(network.time_out(side), 0)
            self.assertEqual(network.status(side)[6], 1)
            self.assertEqual(told(network)[0][1:], before[0][1:])
            self.assertEqual(told(network)[1][1:], before[1][1:])

    def test_messages_in_flight(self):
        for side in SIDES:
            network = joined(side, (1, 3), (2, 4), 4)
            for _ in range(6):
                network.give(side, 0, (9,))
            arrives(network, side, ("ack", 0, (2, 4)))
            rows = self.sends(network, 2, network.time_out, side)
            own, theirs = network.status(side)[3], network.association(side)[2]
            self.assertEqual(rows, [(side, 1, 1, own[1], theirs[0], ("data", number, 0, number - 1, (9,))) for number in (1, 3)])
            # Nothing is released by timing out.
            self.assertEqual(network.association(side)[3:7], (6, 4, 0, (2, 4)))

    def test_the_order_of_the_packets(self):
        for side in SIDES:
            for closing, last in (("no", []), ("asked", []), ("sent", [("shutdown",)]), ("received", []),
                                  ("answered", [("shutdown_ack",)])):
                network = closed_to(closing, side)
                flight = [("data", 1, 0, 0, (7,))] if closing in ("asked", "received") else []
                self.assertEqual(self.chunks(network, network.time_out, side), flight + last)
                network.set_addresses(side, (31, 32))
                network.set_addresses(side, (33, 32))
                expected = flight + [("addresses", 2, (33, 32))] + last
                self.assertEqual(self.chunks(network, network.time_out, side), expected)
                # All over the pair of the new turn.
                self.assertEqual({row[3] for row in rows_since(network, network.packets_sent() - len(expected))}, {33})
                arrives(network, side, ("addresses_ack", 1))
                self.assertEqual(self.chunks(network, network.time_out, side), expected)
                arrives(network, side, ("addresses_ack", 2))
                self.assertEqual(self.chunks(network, network.time_out, side), flight + last)
                self.assertEqual(closing_of(network, side), closing)

    def test_a_single_change_of_addresses(self):
        for side in SIDES:
            network = joined(side)
            network.set_addresses(side, (31,))
            for _ in range(2):
                self.assertEqual(self.chunks(network, network.time_out, side), [("addresses", 1, (31,))])
            arrives(network, side, ("addresses_ack", 1))
            self.assertEqual(self.chunks(network, network.time_out, side), [])

    def test_in_flight_when_closing_was_sent(self):
        # Shutdown arrives while messages are in flight, and closing is received: nothing but them is repeated.
        network = joined("left")
        network.give("left", 0, (7,))
        arrives(network, "left", ("shutdown",))
        self.assertEqual(self.chunks(network, network.time_out, "left"), [("data", 1, 0, 0, (7,))])


class TestProbing(ActCase):
    def test_all_pairs(self):
        for side in SIDES:
            network = joined(side, (1, 3), (2, 4, 6))
            network.time_out(side)
            before = told(network)[:2]
            own, theirs = network.status(side)[3], network.association(side)[2]
            rows = self.sends(network, 6, network.probe, side)
            self.assertEqual(rows, [(side, 1, 1, origin, goal, ("probe",)) for goal in theirs for origin in own])
            self.assertEqual(told(network)[:2], before)

    def test_one_pair(self):
        network = joined("left")
        self.assertEqual(self.sends(network, 1, network.probe, "right"), [("right", 1, 1, 2, 1, ("probe",))])

    def test_in_each_state_of_closing(self):
        for closing in ("no", "asked", "sent", "received", "answered"):
            network = closed_to(closing, "left")
            self.assertEqual(self.chunks(network, network.probe, "left"), [("probe",)])
            self.assertEqual(closing_of(network, "left"), closing)


class TestChangingAddresses(ActCase):
    def test_without_an_association(self):
        for side in SIDES:
            for phase in PHASES[:3]:
                network = phased(phase, side, (1, 3), (2, 4))
                before = network.status(side)
                self.assertEqual(self.sends(network, 0, network.set_addresses, side, [9, 8]), [])
                self.assertEqual(network.status(side), before[:3] + ((9, 8),) + before[4:])

    def test_in_an_association(self):
        for side in SIDES:
            network = joined(side, (1, 3), (2, 4))
            for _ in range(3):
                network.time_out(side)
            theirs = network.association(side)[2]
            for serial, own in ((1, (7, 8)), (2, (7, 8)), (3, (5,)), (4, (1, 2, 3, 4, 5, 6))):
                rows = self.sends(network, 1, network.set_addresses, side, own)
                goal = theirs[3 // len(own) % 2]
                self.assertEqual(rows, [(side, 1, 1, own[3 % len(own)], goal, ("addresses", serial, own))])
                self.assertEqual(network.status(side)[3:], (own, 1, 1, 3))

    def test_the_same_ones_again(self):
        for side in SIDES:
            network = phased("closed", side)
            before = everything(network)
            self.assertEqual(network.set_addresses(side, network.status(side)[3]), 0)
            self.assertEqual(everything(network), before)
            network = joined(side)
            own = network.status(side)[3]
            self.assertEqual(self.chunks(network, network.set_addresses, side, own), [("addresses", 1, own)])

    def test_serials_begin_anew(self):
        network = joined("left")
        network.set_addresses("left", (3,))
        network.abort("left")
        network.set_addresses("left", (5,))
        network.restart("right")
        start = network.packets_sent()
        network.open_end("left", 2)
        for place in range(start, start + 4):
            network.deliver(place)
        self.assertEqual(network.time_out("left"), 0)
        self.assertEqual(self.chunks(network, network.set_addresses, "left", (6,)), [("addresses", 1, (6,))])

    def test_a_change_while_closing(self):
        for closing in ("asked", "sent", "received", "answered"):
            network = closed_to(closing, "right")
            self.assertEqual(self.chunks(network, network.set_addresses, "right", [5]), [("addresses", 1, (5,))])
            self.assertEqual(closing_of(network, "right"), closing)


class TestAborting(ActCase):
    def test_each_phase(self):
        for side in SIDES:
            for phase in PHASES[1:]:
                network = phased(phase, side, (1, 3), (2, 4))
                network.time_out(side)
                before = network.status(side)
                rows = self.sends(network, int(phase == "established"), network.abort, side)
                self.assertEqual(network.status(side), ("closed", None, None) + before[3:])
                self.assertIsNone(network.association(side))
                if phase == "established":
                    theirs = network.status(other_side(side))[3]
                    self.assertEqual(rows, [(side, 1, 1, before[3][1], theirs[0], ("abort",))])
                    self.assertEqual(network.reports(side), [(1, 1, "aborted", ())])
                else:
                    self.assertEqual(network.reports(side), [])

    def test_the_report(self):
        for closing in ("no", "asked", "sent", "received", "answered"):
            network = closed_to(closing, "left")
            given = len(network.given("left"))
            self.assertEqual(self.chunks(network, network.abort, "left"), [("abort",)])
            self.assertEqual(network.reports("left"), [(1, 1, "aborted", ("unsure",) * given)])
            network.deliver(network.packets_sent() - 1)
            self.assertEqual(network.reports("right"), [(1, 1, "aborted by the other end", ())])

    def test_unsent_messages(self):
        network = joined("left", window=1)
        for _ in range(3):
            network.give("left", 0, ())
        network.deliver(4)
        network.deliver(5)
        network.abort("left")
        self.assertEqual(network.reports("left"), [(1, 1, "aborted", ("delivered", "unsure", "unsent"))])


class TestRestarting(ActCase):
    def test_each_phase(self):
        for side in SIDES:
            for phase in PHASES:
                network = phased(phase, side, (1, 3), (2, 4))
                network.time_out(side)
                before = network.status(side)
                packets = network.packets_sent()
                self.assertIsNone(network.restart(side))
                made = before[4]
                self.assertEqual(network.status(side), ("closed", None, None, before[3], made, made, 0))
                self.assertIsNone(network.association(side))
                self.assertEqual((network.packets_sent(), network.reports(side)), (packets, []))

    def test_tags_made_for_cookies_are_spent(self):
        network = Network((1,), (2,), 8)
        network.open_end("left", 2)
        network.deliver(0)
        network.deliver(0)
        network.restart("right")
        self.assertEqual(network.status("right")[4:], (2, 2, 0))

    def test_what_was_given_and_delivered_is_recorded_further(self):
        network = joined("left")
        network.give("left", 3, (1, 2))
        network.deliver(4)
        for side in SIDES:
            network.restart(side)
        self.assertEqual(network.given("left"), [(1, 1, (1, 3, 0, (1, 2)))])
        self.assertEqual(network.received("right"), [(1, 1, (1, 3, 0, (1, 2)))])

    def test_the_other_end_learns_of_it(self):
        for side in SIDES:
            other = other_side(side)
            network = joined(side)
            network.restart(side)
            network.give(other, None, ())
            network.deliver(4)
            network.deliver(5)
            self.assertEqual(last_row(network)[5], ("gone",))
            self.assertEqual(network.reports(other), [(1, 1, "gone", ("unsure",))])


class TestGiving(ActCase):
    def test_numbers_and_places(self):
        for side in SIDES:
            network = joined(side, window=32)
            streams = (0, 0, None, 15, 0, None, 15)
            places = (0, 1, 0, 0, 2, 0, 1)
            for number, stream in enumerate(streams, 1):
                self.assertEqual(network.give(side, stream, (number,)), number)
            rows = [(number, stream, place, (number,)) for number, (stream, place) in enumerate(zip(streams, places), 1)]
            self.assertEqual(network.given(side), [(1, 1, row) for row in rows])
            self.assertEqual(chunks_since(network, 4), [("data",) + row for row in rows])
            self.assertEqual(network.association(side)[3:6], (7, 7, 0))

    def test_codes(self):
        network = joined("left")
        for codes in ([], (), [0, 255], (1,) * 200):
            network.give("left", 0, codes)
            self.assertEqual(last_row(network)[5][4], tuple(codes))

    def test_beyond_the_window(self):
        for window in (1, 8, 32):
            network = joined("left", window=window)
            for number in range(1, 41):
                self.assertEqual(network.give("left", 0, ()), number)
            self.assertEqual(network.packets_sent(), 4 + window)
            self.assertEqual(network.association("left")[3:6], (40, window, 0))

    def test_numbers_begin_anew_with_each_association(self):
        network = joined("left")
        network.give("left", 0, ())
        network.abort("left")
        network.restart("right")
        start = network.packets_sent()
        network.open_end("left", 2)
        for place in range(start, start + 4):
            network.deliver(place)
        self.assertEqual(network.give("left", 0, (5,)), 1)
        self.assertEqual(network.given("left"), [(1, 1, (1, 0, 0, ())), (2, 2, (1, 0, 0, (5,)))])
