import unittest

from fardesk.packets import other_side
from tests.nets import (
    SIDES, arrives, chunks_since, closed_to, closing_of, deliver_all, everything, inject, joined, last_row, phase_of,
    rows_since, told,
)

CLOSING = ("no", "asked", "sent", "received", "answered")


class ArriveCase(unittest.TestCase):
    def brings(self, network, side, chunk, result, *answers):
        """A chunk of the association arrives, with this result, and these chunks are sent."""
        start = network.packets_sent()
        self.assertEqual(arrives(network, side, chunk), result)
        self.assertEqual(chunks_since(network, start + 1), list(answers))

    def unchanged(self, network, side, chunk, result, *answers):
        before = told(network)[:2]
        self.brings(network, side, chunk, result, *answers)
        self.assertEqual(told(network)[:2], before)


class TestData(ArriveCase):
    def test_new_and_known(self):
        for side in SIDES:
            network = joined(side)
            self.brings(network, side, ("data", 2, 0, 1, (5,)), "new", ("ack", 0, (2,)))
            self.brings(network, side, ("data", 4, None, 0, (6,)), "new", ("ack", 0, (2, 4)))
            self.assertEqual(network.received(side), [(1, 1, (4, None, 0, (6,)))])
            self.assertEqual(network.association(side)[7:11], (0, (2, 4), 1, 1))
            self.unchanged(network, side, ("data", 2, 0, 1, (5,)), "known", ("ack", 0, (2, 4)))
            self.brings(network, side, ("data", 1, 0, 0, ()), "new", ("ack", 2, (4,)))
            self.assertEqual([row[2][0] for row in network.received(side)], [4, 1, 2])
            self.brings(network, side, ("data", 3, 1, 0, ()), "new", ("ack", 4, ()))
            self.unchanged(network, side, ("data", 1, 0, 0, ()), "known", ("ack", 4, ()))
            self.assertEqual(network.association(side)[7:11], (4, (), 0, 4))
            self.assertEqual(network.given(other_side(side)), [])

    def test_the_answer_goes_back_the_way_that_it_came(self):
        network = joined("left", (1, 3), (2, 4))
        network.time_out("right")
        inject(network, "left", 1, 1, ("data", 1, 0, 0, ()), origin=3, goal=4)
        self.assertEqual(last_row(network), ("right", 1, 1, 4, 3, ("ack", 1, ())))
        # It does not matter whether it came from a path.
        inject(network, "left", 1, 1, ("data", 2, 0, 1, ()), origin=99, goal=2)
        self.assertEqual(last_row(network), ("right", 1, 1, 2, 99, ("ack", 2, ())))

    def test_the_window(self):
        for window in (1, 8, 32):
            network = joined("left", window=window)
            self.unchanged(network, "right", ("data", window + 1, None, 0, ()), "known", ("ack", 0, ()))
            self.brings(network, "right", ("data", window, None, 0, ()), "new", ("ack", int(window == 1), (window,) * (window > 1)))

    def test_the_greatest_answer(self):
        network = joined("left", window=32)
        for number in range(32, 1, -1):
            arrives(network, "right", ("data", number, 0, number - 1, ()))
        self.assertEqual(last_row(network)[5], ("ack", 0, tuple(range(2, 33))))
        self.brings(network, "right", ("data", 1, 0, 0, ()), "new", ("ack", 32, ()))
        self.assertEqual([row[2][0] for row in network.received("right")], list(range(1, 33)))

    def test_in_each_state_of_closing(self):
        for side in SIDES:
            for closing in CLOSING:
                network = closed_to(closing, side)
                self.brings(network, side, ("data", 1, 0, 0, (3,)), "new", ("ack", 1, ()))
                self.assertEqual(closing_of(network, side), closing)
                self.assertEqual(network.received(side), [(1, 1, (1, 0, 0, (3,)))])


class TestAck(ArriveCase):
    def test_the_window_opens(self):
        network = joined("left", window=2)
        for _ in range(6):
            network.give("left", 0, ())
        self.brings(network, "left", ("ack", 0, (2,)), "acknowledged")
        self.assertEqual(network.association("left")[3:7], (6, 2, 0, (2,)))
        self.brings(network, "left", ("ack", 1, ()), "acknowledged", ("data", 3, 0, 2, ()), ("data", 4, 0, 3, ()))
        self.assertEqual(network.association("left")[3:7], (6, 4, 2, ()))
        self.brings(network, "left", ("ack", 1, ()), "acknowledged")

    def test_what_is_released_goes_over_the_pair_of_the_turn(self):
        network = joined("left", (1, 3), (2, 4), 1)
        network.give("left", 0, ())
        network.give("left", 0, ())
        network.time_out("left")
        network.time_out("left")
        arrives(network, "left", ("ack", 1, ()))
        self.assertEqual(last_row(network), ("left", 1, 1, 1, 4, ("data", 2, 0, 1, ())))

    def test_closing_was_asked(self):
        for side in SIDES:
            network = closed_to("asked", side)
            self.brings(network, side, ("ack", 0, ()), "acknowledged")
            self.assertEqual(closing_of(network, side), "asked")
            self.brings(network, side, ("ack", 1, ()), "acknowledged", ("shutdown",))
            self.assertEqual(closing_of(network, side), "sent")
            self.brings(network, side, ("ack", 1, ()), "acknowledged")

    def test_closing_was_received(self):
        for side in SIDES:
            network = closed_to("received", side)
            self.brings(network, side, ("ack", 0, ()), "acknowledged")
            self.assertEqual(closing_of(network, side), "received")
            self.brings(network, side, ("ack", 1, ()), "acknowledged", ("shutdown_ack",))
            self.assertEqual(closing_of(network, side), "answered")
            self.brings(network, side, ("ack", 1, ()), "acknowledged")

    def test_other_states_of_closing(self):
        for side in SIDES:
            for closing in ("no", "sent", "answered"):
                network = closed_to(closing, side)
                self.unchanged(network, side, ("ack", 0, ()), "acknowledged")


class TestProbes(ArriveCase):
    def test_probe(self):
        for side in SIDES:
            for closing in CLOSING:
                network = closed_to(closing, side)
                self.unchanged(network, side, ("probe",), "answered", ("probe_ack",))

    def test_the_turn_becomes_that_of_the_pair(self):
        for side in SIDES:
            network = joined(side, (1, 3), (2, 4, 6))
            other = other_side(side)
            own = network.status(side)[3]
            theirs = network.association(side)[2]
            self.assertEqual(network.probe(side), 6)
            probes = range(network.packets_sent() - 6, network.packets_sent())
            for turn in (4, 0, 5, 2, 1, 3):
                self.assertEqual(network.deliver(probes[turn]), "answered")
                self.assertEqual(network.deliver(network.packets_sent() - 1), "path")
                self.assertEqual(network.status(side)[6], turn)
                network.give(side, 0, ())
                self.assertEqual(last_row(network)[3:5], (own[turn % len(own)], theirs[turn // len(own)]))
            self.assertEqual(network.status(other)[6], 0)

    def test_an_address_that_is_no_path(self):
        for side in SIDES:
            network = joined(side, (1, 3), (2, 4))
            network.time_out(side)
            before = told(network)[:2]
            self.assertEqual(inject(network, other_side(side), 1, 1, ("probe_ack",), origin=99), "path")
            self.assertEqual(told(network)[:2], before)

    def test_an_address_that_is_no_path_any_more(self):
        network = joined("left", (1,), (2, 4))
        network.probe("left")
        network.deliver(5)
        self.assertEqual(network.packet(6).as_row()[3:], (4, 1, ("probe_ack",)))
        network.set_addresses("right", (2,))
        network.deliver(7)
        self.assertEqual(network.association("left")[2], (2,))
        self.assertEqual(network.deliver(6), "path")
        self.assertEqual(network.status("left")[6], 0)
        network.set_addresses("right", (6, 2, 4))
        network.deliver(network.packets_sent() - 1)
        self.assertEqual(network.deliver(6), "path")
        self.assertEqual(network.status("left")[6], 2)

    def test_an_own_address_that_has_another_index_now(self):
        network = joined("left", (1, 3), (2, 4))
        network.probe("left")
        self.assertEqual(network.packet(7).as_row()[3:5], (3, 4))
        network.deliver(7)
        network.set_addresses("left", (5, 1, 3))
        self.assertEqual(network.deliver(8), "path")
        self.assertEqual(network.status("left")[6], 5)
        network.set_addresses("left", (1,))
        self.assertEqual(network.deliver(8), "no such address")


class TestAddresses(ArriveCase):
    def paths(self, network, side):
        return network.association(side)[2]

    def test_serials(self):
        for side in SIDES:
            network = joined(side)
            self.brings(network, side, ("addresses", 0, (9,)), "answered", ("addresses_ack", 0))
            self.assertEqual(self.paths(network, side), network.status(other_side(side))[3])
            for serial, addresses, paths in ((2, (5, 6), (5, 6)), (2, (7,), (5, 6)), (1, (8,), (5, 6)), (0, (8,), (5, 6)),
                                             (3, (6, 5), (6, 5)), (4294967295, (1,), (1,)), (4294967294, (2,), (1,))):
                self.brings(network, side, ("addresses", serial, addresses), "answered", ("addresses_ack", serial))
                self.assertEqual(self.paths(network, side), paths)

    def test_the_turn_stays(self):
        network = joined("left", (1, 3), (2, 4))
        network.time_out("left")
        network.time_out("left")
        arrives(network, "left", ("addresses", 1, (5, 6, 7)))
        self.assertEqual(network.status("left")[6], 2)
        network.give("left", 0, ())
        self.assertEqual(last_row(network)[3:5], (1, 6))

    def test_serials_begin_anew_with_each_association(self):
        network = joined("left")
        arrives(network, "right", ("addresses", 7, (5,)))
        network.restart("left")
        start = network.packets_sent()
        network.open_end("left", 2)
        deliver_all(network, start)
        self.assertEqual(self.paths(network, "right"), (1,))
        self.assertEqual(inject(network, "left", 2, 2, ("addresses", 1, (6,))), "answered")
        self.assertEqual(self.paths(network, "right"), (6,))

    def test_in_each_state_of_closing(self):
        for side in SIDES:
            for closing in CLOSING:
                network = closed_to(closing, side)
                self.brings(network, side, ("addresses", 1, (9,)), "answered", ("addresses_ack", 1))
                self.assertEqual((self.paths(network, side), closing_of(network, side)), ((9,), closing))

    def test_acknowledgements(self):
        for side in SIDES:
            network = joined(side)
            for own in ((11,), (12,), (13,)):
                network.set_addresses(side, own)
            for serial, repeated in ((0, 1), (2, 1), (1, 1), (3, 0), (1, 0), (2, 0)):
                self.unchanged(network, side, ("addresses_ack", serial), "acknowledged")
                self.assertEqual(network.time_out(side), repeated)
                if repeated:
                    self.assertEqual(last_row(network)[5], ("addresses", 3, (13,)))

    def test_a_change_that_is_not_made_yet_is_acknowledged(self):
        network = joined("left")
        arrives(network, "left", ("addresses_ack", 2))
        network.set_addresses("left", (3,))
        network.set_addresses("left", (4,))
        self.assertEqual(network.time_out("left"), 0)
        network.set_addresses("left", (5,))
        self.assertEqual(network.time_out("left"), 1)


class TestEndings(ArriveCase):
    def ends(self, network, side, chunk, ended, *answers, fates=()):
        before = network.status(side)
        self.brings(network, side, chunk, "ended", *answers)
        self.assertEqual(network.reports(side), [(1, 1, ended, fates)])
        self.assertIsNone(network.association(side))
        self.assertEqual(network.status(side), ("closed", None, None) + before[3:])

    def fates(self, closing):
        return ("unsure",) * (closing in ("asked", "received"))

    def test_gone(self):
        for side in SIDES:
            for closing in CLOSING:
                ended = "complete" if closing == "answered" else "gone"
                self.ends(closed_to(closing, side), side, ("gone",), ended, fates=self.fates(closing))

    def test_abort(self):
        for side in SIDES:
            for closing in CLOSING:
                ended = "aborted by the other end"
                self.ends(closed_to(closing, side), side, ("abort",), ended, fates=self.fates(closing))

    def test_shutdown(self):
        for side in SIDES:
            network = closed_to("no", side)
            self.brings(network, side, ("shutdown",), "closing", ("shutdown_ack",))
            self.assertEqual(closing_of(network, side), "answered")
            network = closed_to("sent", side)
            self.brings(network, side, ("shutdown",), "closing", ("shutdown_ack",))
            self.assertEqual(closing_of(network, side), "answered")
            network = closed_to("asked", side)
            self.brings(network, side, ("shutdown",), "closing")
            self.assertEqual(closing_of(network, side), "received")
            self.brings(network, side, ("ack", 1, ()), "acknowledged", ("shutdown_ack",))
            self.unchanged(closed_to("received", side), side, ("shutdown",), "ignored")
            self.unchanged(closed_to("answered", side), side, ("shutdown",), "answered", ("shutdown_ack",))

    def test_shutdown_while_messages_are_in_flight(self):
        for side in SIDES:
            network = closed_to("no", side)
            network.give(side, 0, ())
            self.brings(network, side, ("shutdown",), "closing")
            self.assertEqual(closing_of(network, side), "received")
            self.brings(network, side, ("ack", 1, ()), "acknowledged", ("shutdown_ack",))

    def test_shutdown_ack_is_sent_over_the_pair_of_the_turn(self):
        for closing in ("no", "sent", "answered"):
            network = closed_to(closing, "left", (1, 3), (2, 4))
            network.time_out("left")
            inject(network, "right", 1, 1, ("shutdown",), origin=4, goal=1)
            self.assertEqual(last_row(network), ("left", 1, 1, 3, 2, ("shutdown_ack",)))

    def test_shutdown_ack(self):
        for side in SIDES:
            for closing in CLOSING:
                network = closed_to(closing, side)
                if closing in ("sent", "answered"):
                    self.ends(network, side, ("shutdown_ack",), "complete", ("shutdown_done",))
                else:
                    self.unchanged(network, side, ("shutdown_ack",), "ignored")

    def test_shutdown_done_is_an_answer(self):
        network = closed_to("sent", "left", (1, 3), (2, 4))
        inject(network, "right", 1, 1, ("shutdown_ack",), origin=4, goal=3)
        self.assertEqual(last_row(network), ("left", 1, 1, 3, 4, ("shutdown_done",)))

    def test_shutdown_done(self):
        for side in SIDES:
            for closing in CLOSING:
                network = closed_to(closing, side)
                if closing == "answered":
                    self.ends(network, side, ("shutdown_done",), "complete")
                else:
                    self.unchanged(network, side, ("shutdown_done",), "ignored")

    def test_frames_and_late_packets(self):
        for side in SIDES:
            for closing in CLOSING:
                network = closed_to(closing, side)
                self.unchanged(network, side, ("frame", 1, 2, 3, 4, (5,)), "frame")
                self.unchanged(network, side, ("frame_ack", 3), "frame_ack")
                self.unchanged(network, side, ("echo_ack",), "ignored")

    def test_what_stays_when_an_association_is_over(self):
        for side in SIDES:
            for chunk in (("gone",), ("abort",), ("shutdown_done",), ("shutdown_ack",)):
                network = closed_to("answered", side, (1, 3), (2, 4))
                for _ in range(3):
                    network.time_out(side)
                before = network.status(side)
                given, received = network.given(side), network.received(side)
                self.assertEqual(before[4:], (1, 1, 3))
                arrives(network, side, chunk)
                self.assertEqual(network.status(side), ("closed", None, None) + before[3:])
                self.assertEqual((network.given(side), network.received(side)), (given, received))
                # It is forgotten: the same packet finds nothing.
                self.assertEqual(arrives(network, side, ("probe",)), "unknown")


class TestGoingOn(ArriveCase):
    def test_give(self):
        for side in SIDES:
            network = joined(side, window=2)
            start = network.packets_sent()
            for number in (1, 2, 3):
                self.assertEqual(network.give(side, 5, [number]), number)
            self.assertEqual(chunks_since(network, start), [("data", 1, 5, 0, (1,)), ("data", 2, 5, 1, (2,))])

    def test_finish_without_messages(self):
        for side in SIDES:
            network = joined(side)
            self.assertEqual(network.finish(side), 1)
            self.assertEqual((last_row(network)[5], closing_of(network, side)), (("shutdown",), "sent"))

    def test_finish_with_messages(self):
        for side in SIDES:
            network = joined(side, window=1)
            network.give(side, 0, ())
            network.give(side, 0, ())
            self.assertEqual(network.finish(side), 0)
            self.assertEqual(closing_of(network, side), "asked")
            self.brings(network, side, ("ack", 1, ()), "acknowledged", ("data", 2, 0, 1, ()))
            self.brings(network, side, ("ack", 2, ()), "acknowledged", ("shutdown",))
            self.assertEqual(closing_of(network, side), "sent")

    def test_messages_of_the_other_end_do_not_matter(self):
        network = joined()
        network.give("right", 0, ())
        self.assertEqual(network.finish("left"), 1)
        self.assertEqual(closing_of(network, "left"), "sent")

    def test_a_whole_end(self):
        for side in SIDES:
            other = other_side(side)
            network = joined(side)
            network.give(side, 0, (1,))
            network.give(other, 0, (2,))
            network.finish(side)
            results = deliver_all(network, 4)
            self.assertEqual(results, ["new", "new", "acknowledged", "acknowledged", "closing", "ended", "ended"])
            self.assertEqual([row[5] for row in rows_since(network, 8)], [("shutdown",), ("shutdown_ack",), ("shutdown_done",)])
            for end in SIDES:
                self.assertEqual(network.reports(end), [(1, 1, "complete", ("delivered",))])
                self.assertEqual(phase_of(network, end), "closed")

    def test_both_ends_finish_at_once(self):
        network = joined()
        network.finish("left")
        network.finish("right")
        results = deliver_all(network, 4)
        self.assertEqual(results, ["closing", "closing", "ended", "ended", "ignored", "ignored"])
        for side in SIDES:
            self.assertEqual(network.reports(side), [(1, 1, "complete", ())])

    def test_the_last_packet_is_lost(self):
        # The end that was asked repeats its answer, and learns that the association is gone: it is complete.
        network = joined()
        network.finish("left")
        network.deliver(4)
        network.deliver(5)
        self.assertEqual(network.reports("left"), [(1, 1, "complete", ())])
        self.assertEqual(network.time_out("right"), 1)
        self.assertEqual(network.deliver(7), "unknown")
        self.assertEqual(network.deliver(8), "ended")
        self.assertEqual(network.reports("right"), [(1, 1, "complete", ())])


class TestNothingElse(ArriveCase):
    def test_the_end_that_sent_it_changes_nothing(self):
        for side in SIDES:
            network = joined(side)
            network.give(side, 0, ())
            other = other_side(side)
            before = everything(network)[SIDES.index(side)]
            network.deliver(4)
            self.assertEqual(everything(network)[SIDES.index(side)], before)
            before = everything(network)[SIDES.index(other)]
            network.deliver(5)
            self.assertEqual(everything(network)[SIDES.index(other)], before)
