"""Whole histories of a network, drawn by a fixed rule: packets are lost, late, doubled and out of order."""

import unittest

from fardesk.network import Network
from fardesk.packets import other_side, packet_octets
from fardesk.reading import read_packet
from tests.drawing import chances
from tests.nets import SIDES, deliver_all, phase_of

STREAMS = (0, 0, 1, None)
OWN = {"left": ((1,), (1, 3), (3, 5, 1)), "right": ((2,), (2, 4), (6, 2))}
RESULTS = (
    "no such address", "ignored", "answered", "echoed", "established", "refused", "unknown", "new", "known",
    "acknowledged", "path", "ended", "closing", "frame", "frame_ack",
)


def happen(chance, network):
    """Let one thing happen that is not refused."""
    side = chance.choice(SIDES)
    many = network.packets_sent()
    kind = chance.random()
    if many and kind < 0.55:
        # Mostly one of the newest packets, sometimes any one.
        first = max(0, many - 12) if chance.random() < 0.9 else 0
        return network.deliver(chance.randrange(first, many))
    row = network.association(side)
    if kind < 0.67:
        return network.time_out(side)
    if kind < 0.69:
        return network.set_addresses(side, chance.choice(OWN[side]))
    if kind < 0.693:
        return network.restart(side)
    if phase_of(network, side) == "closed":
        return network.open_end(side, chance.choice(network.status(other_side(side))[3]))
    if row is None:
        return network.abort(side) if chance.random() < 0.1 else network.time_out(side)
    if row[-1] == "no" and kind < 0.92:
        return network.give(side, chance.choice(STREAMS), (network.packets_sent() % 256,))
    if row[-1] == "no" and kind < 0.93:
        return network.finish(side)
    if kind < 0.97:
        return network.send_frame(side, (1, 2, 3, 4), ())
    if kind < 0.995:
        return network.probe(side)
    return network.abort(side)


class TestHistories(unittest.TestCase):
    def check_delivered(self, network, side):
        """What is delivered of each stream is a beginning of what was given at the other end with these tags."""
        received = network.received(side)
        given = network.given(other_side(side))
        for tag, peer in {row[:2] for row in received}:
            got = [row[2] for row in received if row[:2] == (tag, peer)]
            sent = [row[2] for row in given if row[:2] == (peer, tag)]
            for stream in (0, 1):
                part = [message for message in got if message[1] == stream]
                self.assertEqual(part, [message for message in sent if message[1] == stream][:len(part)])
            unordered = [message for message in got if message[1] is None]
            self.assertEqual(len(set(unordered)), len(unordered))
            for message in unordered:
                self.assertIn(message, sent)

    def check_reports(self, network, side):
        """Each fate is true: what is delivered was delivered, what is unsent never was."""
        for tag, peer, _, fates in network.reports(side):
            given = [row[2] for row in network.given(side) if row[:2] == (tag, peer)]
            got = [row[2] for row in network.received(other_side(side)) if row[:2] == (peer, tag)]
            self.assertEqual(len(given), len(fates))
            for message, fate in zip(given, fates):
                self.assertNotEqual((fate, message in got), ("delivered", False))
                self.assertNotEqual((fate, message in got), ("unsent", True))

    def check_status(self, network, side, before):
        phase, tag, peer, own, made, spent, turn = network.status(side)
        row = network.association(side)
        self.assertEqual(row is not None, phase == "established")
        self.assertEqual(tag is None, phase == "closed")
        self.assertEqual(peer is None, phase in ("closed", "opening"))
        self.assertTrue(0 <= spent <= made and turn >= 0)
        # The tags made and spent never become less.
        self.assertTrue(made >= before[4] and spent >= before[5])
        if row is not None:
            self.assertEqual(row[:2], (tag, peer))
            self.assertTrue(1 <= tag <= spent)
            given, sent, acked, beyond, up_to, arrived, waiting, delivered = row[3:11]
            self.assertTrue(0 <= acked <= sent <= given)
            self.assertTrue(sent <= acked + self.window)
            self.assertEqual(list(beyond), sorted(set(beyond)))
            self.assertTrue(all(acked + 1 < number <= sent for number in beyond))
            self.assertTrue(all(up_to + 1 < number <= up_to + self.window for number in arrived))
            self.assertEqual(waiting + delivered, up_to + len(arrived))

    def history(self, number, many):
        chance = chances(number)
        self.window = chance.choice((1, 2, 8, 32))
        network = Network(chance.choice(OWN["left"]), chance.choice(OWN["right"]), self.window)
        seen = []
        for _ in range(many):
            before = [network.status(side) for side in SIDES]
            result = happen(chance, network)
            if isinstance(result, str):
                self.assertIn(result, RESULTS)
                seen.append(result)
            for place, side in enumerate(SIDES):
                self.check_delivered(network, side)
                self.check_reports(network, side)
                self.check_status(network, side, before[place])
        return network, seen

    def test_histories(self):
        seen = []
        associations = 0
        delivered = 0
        for number in range(60):
            network, results = self.history(number, 400)
            seen.extend(results)
            associations += sum(len(network.reports(side)) for side in SIDES)
            delivered += sum(len(network.received(side)) for side in SIDES)
        # The rule of the test lets everything happen.
        self.assertEqual(sorted(set(seen)), sorted(result for result in RESULTS if result != "frame_ack"))
        self.assertGreater(associations, 100)
        self.assertGreater(delivered, 500)

    def test_the_same_history_again(self):
        one, first = self.history(7, 150)
        two, second = self.history(7, 150)
        self.assertEqual(first, second)
        self.assertEqual(one.packets_sent(), two.packets_sent())
        for place in range(one.packets_sent()):
            self.assertEqual(one.packet(place).as_row(), two.packet(place).as_row())

    def test_each_packet_has_octets(self):
        network, _ = self.history(3, 300)
        for place in range(network.packets_sent()):
            packet = network.packet(place)
            self.assertEqual(read_packet(packet_octets(packet)).as_row(), packet.as_row())

    def test_all_is_brought_over_in_the_end(self):
        # Whatever was lost: when both ends time out and all packets arrive, all messages are delivered.
        for number in range(20):
            chance = chances(1000 + number)
            network = Network((1, 3), (2, 4), 4)
            network.open_end("left", 4)
            deliver_all(network, 0)
            for _ in range(60):
                side = chance.choice(SIDES)
                kind = chance.random()
                if kind < 0.5:
                    network.give(side, chance.choice(STREAMS), ())
                elif kind < 0.6:
                    network.time_out(side)
                else:
                    network.deliver(chance.randrange(network.packets_sent()))
            for side in SIDES:
                start = network.packets_sent()
                network.time_out(side)
                deliver_all(network, start)
            for side in SIDES:
                got = [message for _, _, message in network.received(side)]
                sent = [message for _, _, message in network.given(other_side(side))]
                self.assertEqual(sorted(got, key=lambda message: message[0]), sent)
                row = network.association(side)
                self.assertEqual((row[4], row[5], row[6]), (row[3], row[3], ()))
