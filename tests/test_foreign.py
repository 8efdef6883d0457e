import unittest

from fardesk.packets import other_side
from tests.nets import SIDES, everything, inject, joined, last_row, phased, told
from tests.samples import PARTS, right_chunk

# init, init_ack and echo do not belong to an association: points 59 to 61 tell of them in each phase.
KINDS = [name for name in PARTS if name not in ("init", "init_ack", "echo")]
SILENT = ("gone", "abort", "shutdown_done", "echo_ack")


class TestEchoing(unittest.TestCase):
    def test_each_kind_of_chunk(self):
        for side in SIDES:
            for name in KINDS:
                network = phased("echoing", side)
                before = everything(network)
                result = inject(network, other_side(side), 1, 1, right_chunk(name))
                if name == "echo_ack":
                    self.assertEqual((result, network.status(side)[0]), ("established", "established"))
                elif name in ("gone", "abort"):
                    self.assertEqual((result, network.status(side)[0]), ("refused", "closed"))
                    self.assertEqual(network.reports(side), [])
                else:
                    self.assertEqual(result, "ignored")
                    self.assertEqual(everything(network)[:2], before[:2])
                # There is never an answer; one packet came in.
                self.assertEqual(network.packets_sent(), 4)

    def test_refused(self):
        for side in SIDES:
            for name in ("gone", "abort"):
                network = phased("echoing", side)
                network.time_out(side)
                inject(network, other_side(side), 1, 1, (name,))
                phase, tag, peer, _, made, spent, turn = network.status(side)
                self.assertEqual((phase, tag, peer, made, spent, turn), ("closed", None, None, 1, 0, 1))


class TestForeignTags(unittest.TestCase):
    def check(self, network, side, source, target, name):
        other = other_side(side)
        before = told(network)[:2]
        sent = network.packets_sent()
        origin = network.status(other)[3][-1]
        result = inject(network, other, source, target, right_chunk(name), origin=origin)
        self.assertEqual(told(network)[:2], before, (side, name))
        if name in SILENT:
            self.assertEqual((result, network.packets_sent() - sent), ("ignored", 1), name)
        else:
            self.assertEqual((result, network.packets_sent() - sent), ("unknown", 2), name)
            own = network.status(side)[3][0]
            self.assertEqual(last_row(network), (side, target, source, own, origin, ("gone",)))

    def test_each_phase_and_each_kind(self):
        for side in SIDES:
            for phase in ("closed", "opening", "echoing", "established"):
                network = phased(phase, side, (1, 3), (2, 4))
                for name in KINDS:
                    for source, target in ((9, 1), (1, 9), (0, 0), (4294967295, 7)):
                        self.check(network, side, source, target, name)

    def test_the_own_tag_while_opening(self):
        for side in SIDES:
            network = phased("opening", side)
            for name in KINDS:
                self.check(network, side, 0, 1, name)
                self.check(network, side, 1, 1, name)

    def test_tags_of_an_association_that_is_over(self):
        for side in SIDES:
            network = joined(side)
            network.abort(side)
            for name in KINDS:
                self.check(network, side, 1, 1, name)

    def test_two_ends_that_do_not_know_each_other_come_to_rest(self):
        network = joined()
        network.give("left", 0, (1,))
        network.restart("left")
        network.restart("right")
        self.assertEqual(network.deliver(4), "unknown")
        self.assertEqual(last_row(network), ("right", 1, 1, 2, 1, ("gone",)))
        self.assertEqual(network.deliver(5), "ignored")
        self.assertEqual(network.packets_sent(), 6)

    def test_a_restarted_end_tells_that_the_association_is_gone(self):
        network = joined()
        network.give("left", 0, (1,))
        network.restart("right")
        network.deliver(4)
        self.assertEqual(network.deliver(5), "ended")
        self.assertEqual(network.reports("left"), [(1, 1, "gone", ("unsure",))])
