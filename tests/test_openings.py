import unittest

from fardesk.network import Network
from fardesk.packets import other_side
from tests.nets import SIDES, deliver_all, everything, inject, joined, last_row, open_from, phased, rows_since


class OpenCase(unittest.TestCase):
    def check(self, network, side, *status):
        """The status: phase, tag, tag of the other end, tags made, spent tag, turn."""
        phase, tag, peer, _, made, spent, turn = network.status(side)
        self.assertEqual((phase, tag, peer, made, spent, turn), status)


class TestFourPackets(OpenCase):
    def opened(self, side):
        other = other_side(side)
        addresses = {"left": (1, 3), "right": (2, 4, 6)}
        own, theirs = addresses[side], addresses[other]
        network = Network([1, 3], (2, 4, 6), 8)
        spent = 0
        for end in SIDES:
            self.check(network, end, "closed", None, None, 0, 0, 0)
        self.assertEqual(network.open_end(side, theirs[1]), 1)
        self.assertEqual(last_row(network), (side, 1, 0, own[0], theirs[1], ("init", own)))
        self.check(network, side, "opening", 1, None, 1, spent, 0)
        self.assertEqual(network.deliver(0), "answered")
        self.assertEqual(last_row(network), (other, 1, 1, theirs[1], own[0], ("init_ack", theirs, (1, 1, own))))
        self.check(network, other, "closed", None, None, 1, 0, 0)
        self.assertEqual(network.deliver(1), "echoed")
        # The echo goes over the pair of the turn, not back the way of the answer.
        self.assertEqual(last_row(network), (side, 1, 1, own[0], theirs[0], ("echo", (1, 1, own))))
        self.check(network, side, "echoing", 1, 1, 1, spent, 0)
        self.assertEqual(network.deliver(2), "established")
        self.assertEqual(last_row(network), (other, 1, 1, theirs[0], own[0], ("echo_ack",)))
        self.check(network, other, "established", 1, 1, 1, 1, 0)
        self.assertEqual(network.association(other), (1, 1, own, 0, 0, 0, (), 0, (), 0, 0, "no"))
        self.assertIsNone(network.association(side))
        self.assertEqual(network.deliver(3), "established")
        self.check(network, side, "established", 1, 1, 1, 1, 0)
        self.assertEqual(network.association(side), (1, 1, theirs, 0, 0, 0, (), 0, (), 0, 0, "no"))
        self.assertEqual(network.packets_sent(), 4)
        return network

    def test_from_either_end(self):
        for side in SIDES:
            network = self.opened(side)
            for end in SIDES:
                self.assertEqual(network.reports(end), [])
                self.assertEqual(network.status(end)[3], {"left": (1, 3), "right": (2, 4, 6)}[end])

    def test_asking_at_an_address_that_is_none(self):
        network = Network((1,), (2,), 8)
        self.assertEqual(network.open_end("left", 9), 1)
        self.assertEqual(network.deliver(0), "no such address")
        self.check(network, "left", "opening", 1, None, 1, 0, 0)


class TestAsking(OpenCase):
    def test_the_left_end_spends_its_tags(self):
        for side, spent in (("left", 3), ("right", 1)):
            network = joined(other_side(side))
            # Two more tags are made for cookies.
            start = network.packets_sent()
            network.restart(other_side(side))
            network.open_end(other_side(side), network.status(side)[3][0])
            network.deliver(start)
            network.deliver(start)
            network.abort(side)
            self.check(network, side, "closed", None, None, 3, 1, 0)
            network.open_end(side, 7)
            self.check(network, side, "opening", 4, None, 4, spent, 0)

    def test_the_turn_becomes_0(self):
        for side in SIDES:
            network = joined(side, (1, 3), (2, 4))
            network.time_out(side)
            network.time_out(side)
            network.abort(side)
            self.assertEqual(network.status(side)[6], 2)
            network.open_end(side, 9)
            self.assertEqual(network.status(side)[6], 0)
            self.assertEqual(last_row(network)[3:5], (network.status(side)[3][0], 9))


class TestInit(OpenCase):
    def test_the_left_end_ignores_it_while_it_asks(self):
        for phase in ("opening", "echoing"):
            network = phased(phase, "left")
            before = everything(network)[:2]
            network.open_end("right", 1)
            start = network.packets_sent()
            self.assertEqual(network.deliver(start - 1), "ignored")
            self.assertEqual(network.packets_sent(), start)
            self.assertEqual(everything(network)[0], before[0])

    def test_the_right_end_answers_in_each_phase(self):
        for phase in ("closed", "opening", "echoing", "established"):
            network = phased(phase, "right")
            made = network.status("right")[4]
            before = network.status("right"), network.association("right")
            self.assertEqual(inject(network, "left", 77, 5, ("init", (1, 8)), origin=8), "answered")
            row = ("right", made + 1, 77, 2, 8, ("init_ack", (2,), (made + 1, 77, (1, 8))))
            self.assertEqual(last_row(network), row)
            status = before[0][:4] + (made + 1,) + before[0][5:]
            self.assertEqual((network.status("right"), network.association("right")), (status, before[1]))

    def test_the_left_end_answers_when_closed_and_established(self):
        for phase in ("closed", "established"):
            network = phased(phase, "left")
            before = network.status("left"), network.association("left")
            self.assertEqual(inject(network, "right", 77, 0, ("init", (2,))), "answered")
            made = before[0][4] + 1
            self.assertEqual(last_row(network), ("left", made, 77, 1, 2, ("init_ack", (1,), (made, 77, (2,)))))
            status = before[0][:4] + (made,) + before[0][5:]
            self.assertEqual((network.status("left"), network.association("left")), (status, before[1]))

    def test_each_arrival_makes_another_tag(self):
        network = Network((1,), (2,), 8)
        network.open_end("left", 2)
        for tag in (1, 2, 3):
            self.assertEqual(network.deliver(0), "answered")
            self.assertEqual(last_row(network)[5][2], (tag, 1, (1,)))
        self.check(network, "right", "closed", None, None, 3, 0, 0)

    def test_it_goes_back_to_where_it_came_from(self):
        network = Network((1, 3), (2, 4), 8)
        network.open_end("left", 4)
        network.time_out("left")
        network.deliver(1)
        self.assertEqual(last_row(network)[3:5], (4, 3))
        # The addresses are those of the packet, whatever the addresses are now.
        network.set_addresses("left", (5,))
        network.deliver(0)
        self.assertEqual(last_row(network)[4:], (1, ("init_ack", (2, 4), (2, 1, (1, 3)))))


class TestInitAck(OpenCase):
    def test_another_tag(self):
        for side in SIDES:
            network = phased("opening", side)
            network.abort(side)
            network.deliver(0)
            network.open_end(side, network.status(other_side(side))[3][0])
            before = everything(network)
            self.assertEqual(network.deliver(1), "ignored")
            self.assertEqual(everything(network), before)

    def test_in_other_phases(self):
        for side in SIDES:
            for phase in ("closed", "echoing", "established"):
                network = phased(phase, side)
                tag = network.status(side)[1] or 0
                before = everything(network)
                self.assertEqual(inject(network, other_side(side), 9, tag, ("init_ack", (2,), (9, tag, (1,)))), "ignored")
                self.assertEqual(everything(network)[:2], before[:2])

    def test_it_arrives_twice(self):
        for side in SIDES:
            network = phased("echoing", side)
            before = everything(network)
            self.assertEqual(network.deliver(1), "ignored")
            self.assertEqual(everything(network), before)

    def test_the_first_answer_of_several_counts(self):
        network = phased("opening", "left")
        network.deliver(0)
        network.deliver(0)
        self.assertEqual(network.deliver(2), "echoed")
        self.assertEqual(network.deliver(1), "ignored")
        self.assertEqual(last_row(network), ("left", 1, 2, 1, 2, ("echo", (2, 1, (1,)))))
        self.assertEqual(deliver_all(network, 3), ["established", "established"])
        self.check(network, "right", "established", 2, 1, 2, 2, 0)

    def test_the_pair_of_the_turn(self):
        network = Network((1, 3), (2, 4, 6), 8)
        network.open_end("left", 2)
        for _ in range(3):
            network.time_out("left")
        network.deliver(0)
        network.deliver(network.packets_sent() - 1)
        # The turn is 3: the second own address, and the second path.
        self.assertEqual(last_row(network), ("left", 1, 1, 3, 4, ("echo", (1, 1, (1, 3)))))
        self.check(network, "left", "echoing", 1, 1, 1, 0, 3)
        deliver_all(network, network.packets_sent() - 1)
        self.check(network, "left", "established", 1, 1, 1, 1, 0)

    def test_the_paths_are_the_addresses_of_the_packet(self):
        network = Network((1,), (2, 4), 8)
        network.open_end("left", 2)
        network.deliver(0)
        network.set_addresses("right", (5, 6))
        network.deliver(1)
        self.assertEqual(last_row(network)[3:5], (1, 2))
        self.assertEqual(network.deliver(2), "no such address")
        network.set_addresses("right", (2,))
        deliver_all(network, 2)
        self.assertEqual(network.association("left")[2], (2, 4))


class TestEcho(OpenCase):
    def test_it_arrives_again(self):
        for side in SIDES:
            other = other_side(side)
            network = joined(side)
            network.give(side, 0, (1,))
            before = everything(network)
            for _ in range(2):
                self.assertEqual(network.deliver(2), "answered")
                self.assertEqual(last_row(network)[:3] + last_row(network)[5:], (other, 1, 1, ("echo_ack",)))
            self.assertEqual(everything(network)[:2], before[:2])

    def test_it_arrives_late(self):
        for side in SIDES:
            network = joined(side)
            network.abort(other_side(side))
            before = everything(network)[:2]
            self.assertEqual(network.deliver(2), "refused")
            self.assertEqual(last_row(network)[0:3] + last_row(network)[5:], (other_side(side), 1, 1, ("gone",)))
            self.assertEqual(everything(network)[:2], before)

    def test_behind_a_restart_all_tags_made_are_spent(self):
        for side in SIDES:
            other = other_side(side)
            network = phased("echoing", side)
            network.restart(other)
            self.check(network, other, "closed", None, None, 1, 1, 0)
            self.assertEqual(network.deliver(2), "refused")
            self.assertEqual(last_row(network)[5], ("gone",))
            self.assertEqual(network.deliver(3), "refused")
            self.check(network, side, "closed", None, None, 1, 0, 0)

    def test_behind_a_restart_of_the_end_that_asked(self):
        for side in SIDES:
            network = phased("echoing", side)
            network.restart(side)
            self.assertEqual(network.deliver(2), "established")
            self.assertEqual(network.deliver(3), "ignored")
            self.check(network, side, "closed", None, None, 1, 1, 0)
            self.check(network, other_side(side), "established", 1, 1, 1, 1, 0)

    def test_cookies_in_another_order(self):
        network = Network((1,), (2,), 8)
        echoes = []
        for _ in range(3):
            start = network.packets_sent()
            network.open_end("left", 2)
            network.deliver(start)
            network.deliver(start + 1)
            echoes.append(start + 2)
            network.abort("left")
        self.check(network, "right", "closed", None, None, 3, 0, 0)
        self.assertEqual(network.deliver(echoes[1]), "established")
        self.check(network, "right", "established", 2, 2, 3, 2, 0)
        start = network.packets_sent()
        self.assertEqual(network.deliver(echoes[0]), "refused")
        self.assertEqual(rows_since(network, start), [("right", 1, 1, 2, 1, ("gone",))])
        self.check(network, "right", "established", 2, 2, 3, 2, 0)
        self.assertEqual(network.reports("right"), [])
        self.assertEqual(network.deliver(echoes[2]), "established")
        self.check(network, "right", "established", 3, 3, 3, 3, 0)
        self.assertEqual(network.reports("right"), [(2, 2, "replaced", ())])

    def test_an_association_is_replaced(self):
        for side in SIDES:
            other = other_side(side)
            network = joined(side)
            network.give(other, 0, (1,))
            network.give(other, None, (2,))
            network.give(other, 0, (3,))
            network.deliver(5)
            network.deliver(7)
            network.time_out(other)
            network.restart(side)
            start = network.packets_sent()
            network.open_end(side, network.status(other)[3][0])
            results = deliver_all(network, start)
            self.assertEqual(results, ["answered", "echoed", "established", "established"])
            report = (1, 1, "replaced", ("unsure", "delivered", "unsure"))
            self.assertEqual(network.reports(other), [report])
            self.assertEqual(network.reports(side), [])
            self.check(network, other, "established", 2, 2, 2, 2, 0)
            self.assertEqual(network.association(other)[:2] + network.association(other)[3:],
                             (2, 2, 0, 0, 0, (), 0, (), 0, 0, "no"))
            self.assertEqual(len(network.given(other)), 3)

    def test_it_does_not_matter_what_the_phase_is(self):
        # Both ends ask at once. The left end goes first.
        network = Network((1,), (2,), 8)
        network.open_end("left", 2)
        network.open_end("right", 1)
        self.assertEqual(network.deliver(1), "ignored")
        self.assertEqual(network.deliver(0), "answered")
        self.assertEqual(network.deliver(2), "echoed")
        self.check(network, "right", "opening", 1, None, 2, 0, 0)
        self.assertEqual(network.deliver(3), "established")
        self.check(network, "right", "established", 2, 1, 2, 2, 0)
        self.assertEqual(network.deliver(4), "established")
        self.check(network, "left", "established", 1, 2, 1, 1, 0)

    def test_a_cookie_that_the_left_end_made_before_it_asked(self):
        network = Network((1,), (2,), 8)
        network.open_end("right", 1)
        network.deliver(0)
        network.deliver(1)
        network.open_end("left", 2)
        self.check(network, "left", "opening", 2, None, 2, 1, 0)
        self.assertEqual(network.deliver(2), "refused")
        self.check(network, "left", "opening", 2, None, 2, 1, 0)
        network.deliver(4)
        self.check(network, "right", "closed", None, None, 1, 0, 0)
        self.assertEqual(deliver_all(network, 3)[0], "answered")
        self.check(network, "left", "established", 2, 2, 2, 2, 0)

    def test_the_turn_becomes_0(self):
        network = phased("echoing", "right")
        network.restart("left")
        network.open_end("left", 9)
        network.time_out("left")
        network.time_out("left")
        self.assertEqual(inject(network, "right", 1, 9, ("echo", (5, 1, (2, 4)))), "established")
        self.check(network, "left", "established", 5, 1, 2, 5, 0)
        self.assertEqual(network.association("left")[2], (2, 4))

    def test_the_tags_of_the_packet_do_not_matter(self):
        network = Network((1,), (2,), 8)
        self.assertEqual(inject(network, "left", 8, 9, ("echo", (5, 6, (1,)))), "established")
        self.assertEqual(last_row(network), ("right", 5, 6, 2, 1, ("echo_ack",)))
        self.assertEqual(inject(network, "left", 8, 9, ("echo", (5, 6, (7,)))), "answered")
        self.assertEqual(network.association("right")[2], (1,))
        self.assertEqual(inject(network, "left", 5, 6, ("echo", (5, 7, (1,)))), "refused")
        self.assertEqual(last_row(network), ("right", 5, 7, 2, 1, ("gone",)))
        self.assertEqual(inject(network, "left", 5, 6, ("echo", (4, 6, (1,)))), "refused")
        self.assertEqual(inject(network, "left", 5, 6, ("echo", (6, 6, (1,)))), "established")
        self.assertEqual(network.reports("right"), [(5, 6, "replaced", ())])


class TestEchoAck(OpenCase):
    def test_all_tags_made_are_spent(self):
        # Only the right end can make tags for cookies while it is echoing.
        network = phased("echoing", "right")
        network.restart("left")
        start = network.packets_sent()
        network.open_end("left", 2)
        network.deliver(start)
        self.check(network, "right", "echoing", 1, 1, 2, 0, 0)
        self.assertEqual(inject(network, "left", 1, 1, ("echo_ack",)), "established")
        self.check(network, "right", "established", 1, 1, 2, 2, 0)
        # So the cookie that was made meanwhile is refused.
        network.deliver(start + 1)
        self.assertEqual(network.deliver(start + 3), "refused")

    def test_it_arrives_again(self):
        for side in SIDES:
            network = joined(side)
            network.give(side, 0, ())
            before = everything(network)
            self.assertEqual(network.deliver(3), "ignored")
            self.assertEqual(everything(network), before)
            network.abort(side)
            before = everything(network)
            self.assertEqual(network.deliver(3), "ignored")
            self.assertEqual(everything(network), before)

    def test_the_turn_becomes_0(self):
        network = phased("echoing", "left", (1, 3), (2, 4))
        network.time_out("left")
        network.time_out("left")
        self.assertEqual(last_row(network)[3:5], (1, 4))
        self.check(network, "left", "echoing", 1, 1, 1, 0, 2)
        deliver_all(network, 2)
        self.check(network, "left", "established", 1, 1, 1, 1, 0)

    def test_a_second_association(self):
        for first in SIDES:
            for second in SIDES:
                network = joined(first)
                network.abort(first)
                network.deliver(4)
                self.assertEqual(open_from(network, second), ["answered", "echoed", "established", "established"])
                for side in SIDES:
                    self.check(network, side, "established", 2, 2, 2, 2, 0)


class TestPairs(unittest.TestCase):
    def test_the_pairs_of_the_turns(self):
        for side in SIDES:
            network = joined(side, (1, 3), (2, 4, 6))
            own = network.status(side)[3]
            theirs = network.association(side)[2]
            network.give(side, 0, (1,))
            pairs = [last_row(network)[3:5]]
            for turn in range(1, 9):
                self.assertEqual(network.time_out(side), 1)
                self.assertEqual(network.status(side)[6], turn)
                pairs.append(last_row(network)[3:5])
            every = [(origin, goal) for goal in theirs for origin in own]
            self.assertEqual(pairs, (every * 2)[:9])

    def test_opening_goes_through_the_own_addresses(self):
        network = Network((1, 3, 5), (2,), 8)
        network.open_end("left", 9)
        for origin in (3, 5, 1, 3):
            self.assertEqual(network.time_out("left"), 1)
            self.assertEqual(last_row(network), ("left", 1, 0, origin, 9, ("init", (1, 3, 5))))
