import unittest

from fardesk.errors import InvalidArgument
from fardesk.packets import Packet, other_side, packet_octets
from tests.samples import COOKIE, GREATEST, NO_NUMBERS, all_chunks, packet

# Wrong values of each parameter, in the order of the parameters.
BAD = {
    "sender": ("", "Left", "right ", "both", 0, 1, None, True, (), ("left",), ["left"]),
    "source": NO_NUMBERS + (None, -1, GREATEST + 1),
    "target": NO_NUMBERS + (None, -1, GREATEST + 1),
    "origin": NO_NUMBERS + (None, -1, 256),
    "goal": NO_NUMBERS + (None, -1, 256),
    "chunk": (None, True, 1, "gone", (), [], ["gone"], ("gone", 1), ("close",), ("data", 1, None, 1, ()),
              ("init", ()), ("init", [1]), ("frame_ack", GREATEST + 1), (("gone",),)),
}
RIGHT = {"sender": "left", "source": 1, "target": 0, "origin": 1, "goal": 7, "chunk": ("gone",)}


def made(arguments):
    return Packet(arguments["sender"], arguments["source"], arguments["target"], origin=arguments["origin"],
                  goal=arguments["goal"], chunk=arguments["chunk"])


class TestSides(unittest.TestCase):
    def test_other_side(self):
        self.assertEqual((other_side("left"), other_side("right")), ("right", "left"))


class TestPacket(unittest.TestCase):
    def test_attributes_and_row(self):
        for sender, source, target, origin, goal, chunk in (
                ("left", 1, 0, 1, 7, ("init", (1, 2))), ("right", 3, 4, 5, 6, ("gone",)),
                ("left", 0, GREATEST, 0, 255, ("probe",)), ("right", GREATEST, 0, 255, 0, ("data", 1, None, 0, (1,)))):
            one = Packet(sender, source, target, origin=origin, goal=goal, chunk=chunk)
            self.assertEqual((one.sender, one.source, one.target, one.origin, one.goal, one.chunk),
                             (sender, source, target, origin, goal, chunk))
            self.assertEqual(one.as_row(), (sender, source, target, origin, goal, chunk))

    def test_each_chunk(self):
        for chunk in all_chunks():
            self.assertEqual(packet(chunk).chunk, chunk)

    def test_like_addresses_and_tags(self):
        self.assertEqual(Packet("left", 4, 4, origin=4, goal=4, chunk=("gone",)).as_row(), ("left", 4, 4, 4, 4, ("gone",)))

    def refused(self, name, arguments):
        with self.assertRaises(InvalidArgument) as caught:
            made(arguments)
        self.assertEqual(caught.exception.name, name)

    def test_every_single_bad_part(self):
        for name, values in BAD.items():
            for value in values:
                self.refused(name, {**RIGHT, name: value})

    def test_every_two_bad_parts(self):
        names = list(RIGHT)
        for place, first in enumerate(names):
            for second in names[place + 1:]:
                for value in BAD[first]:
                    for other in BAD[second]:
                        self.refused(first, {**RIGHT, first: value, second: other})

    def test_all_parts_bad(self):
        self.refused("sender", {name: None for name in RIGHT})

    def test_keywords(self):
        with self.assertRaises(TypeError):
            Packet("left", 1, 0, 1, 7, ("gone",))


class TestAnswer(unittest.TestCase):
    def test_both_ends(self):
        for sender, other in (("left", "right"), ("right", "left")):
            one = Packet(sender, 1, 2, origin=3, goal=4, chunk=("probe",))
            answer = one.answer(5, 6, ("probe_ack",))
            self.assertIsInstance(answer, Packet)
            self.assertEqual(answer.as_row(), (other, 5, 6, 4, 3, ("probe_ack",)))
            self.assertEqual(one.as_row(), (sender, 1, 2, 3, 4, ("probe",)))

    def test_an_answer_to_an_answer(self):
        one = Packet("left", 1, 2, origin=3, goal=4, chunk=("probe",))
        self.assertEqual(one.answer(5, 6, ("gone",)).answer(1, 2, ("probe",)).as_row(), one.as_row())

    def test_bad_parts(self):
        one = Packet("left", 1, 2, origin=3, goal=4, chunk=("probe",))
        for arguments, name in (((-1, 6, ("gone",)), "source"), ((5, True, ("gone",)), "target"),
                                ((5, 6, ("close",)), "chunk"), ((None, None, None), "source")):
            with self.assertRaises(InvalidArgument) as caught:
                one.answer(*arguments)
            self.assertEqual(caught.exception.name, name)


class TestOctets(unittest.TestCase):
    HEAD = [1, 2, 3, 4, 0xA0, 0xB0, 0xC0, 0xD0, 17, 34]

    def check(self, chunk, kind, *octets):
        """The octets of a packet from each end with a chunk."""
        self.assertEqual(packet_octets(packet(chunk)), [0, kind] + self.HEAD + list(octets))
        self.assertEqual(packet_octets(packet(chunk, "right")), [1, kind] + self.HEAD + list(octets))

    def test_example(self):
        one = Packet("left", 1, 0, origin=1, goal=7, chunk=("init", (1, 2)))
        self.assertEqual(packet_octets(one), [0, 0, 0, 0, 0, 1, 0, 0, 0, 0, 1, 7, 2, 1, 2])

    def test_chunks_without_parts(self):
        for name, kind in (("echo_ack", 3), ("probe", 6), ("probe_ack", 7), ("gone", 10), ("abort", 11),
                           ("shutdown", 12), ("shutdown_ack", 13), ("shutdown_done", 14)):
            self.check((name,), kind)

    def test_addresses_and_cookies(self):
        self.check(("init", (9,)), 0, 1, 9)
        self.check(("init", (6, 5, 4, 3, 2, 255)), 0, 6, 6, 5, 4, 3, 2, 255)
        self.check(("init_ack", (9, 8), (258, GREATEST, (3, 4, 5))), 1,
                   2, 9, 8, 0, 0, 1, 2, 255, 255, 255, 255, 3, 3, 4, 5)
        self.check(("echo", COOKIE), 2, 0, 0, 0, 5, 0, 0, 0, 9, 2, 1, 2)
        self.check(("addresses", 65536, (3,)), 8, 0, 1, 0, 0, 1, 3)
        self.check(("addresses_ack", 16909060), 9, 1, 2, 3, 4)

    def test_messages(self):
        self.check(("data", 258, 0, 3, (7, 8)), 4, 0, 0, 1, 2, 0, 0, 0, 0, 3, 0, 2, 7, 8)
        self.check(("data", 1, 15, GREATEST, ()), 4, 0, 0, 0, 1, 15, 255, 255, 255, 255, 0, 0)
        self.check(("data", 1, None, 0, (9,)), 4, 0, 0, 0, 1, 255, 0, 0, 0, 0, 0, 1, 9)
        self.check(("data", 1, 2, 0, (9,) * 200), 4, 0, 0, 0, 1, 2, 0, 0, 0, 0, 0, 200, *[9] * 200)

    def test_acknowledgements(self):
        self.check(("ack", 7, ()), 5, 0, 0, 0, 7, 0)
        self.check(("ack", 7, (9, 256)), 5, 0, 0, 0, 7, 2, 0, 0, 0, 9, 0, 0, 1, 0)
        self.check(("ack", 7, (1,) * 32), 5, 0, 0, 0, 7, 32, *[0, 0, 0, 1] * 32)

    def test_frames(self):
        self.check(("frame", 1, 2, 3, 256, (27, 91)), 15, 0, 0, 0, 1, 0, 0, 0, 2, 0, 0, 0, 3, 0, 0, 1, 0, 0, 2, 27, 91)
        self.check(("frame", 1, 2, 3, 4, (9,) * 258), 15, 0, 0, 0, 1, 0, 0, 0, 2, 0, 0, 0, 3, 0, 0, 0, 4, 1, 2, *[9] * 258)
        self.check(("frame", 0, 0, 0, 0, (9,) * 10000), 15, *[0] * 16, 39, 16, *[9] * 10000)
        self.check(("frame_ack", GREATEST), 16, 255, 255, 255, 255)

    def test_returned_lists_are_the_callers(self):
        for chunk in all_chunks():
            one = packet(chunk)
            octets = packet_octets(one)
            kept = list(octets)
            octets.append(1)
            octets[0] = 9
            self.assertEqual(packet_octets(one), kept)
            self.assertEqual(packet_octets(one), packet_octets(packet(chunk)))
            self.assertEqual(one.chunk, chunk)
