import unittest

from fardesk.errors import InvalidArgument, MalformedPacket
from fardesk.packets import Packet, packet_octets
from fardesk.reading import read_packet
from tests.drawing import chances
from tests.samples import GREATEST, PARTS, all_chunks, chunks_of, packet, right_chunk

KINDS = list(PARTS)
# The octets before the parts of the chunk, but for the kind number.
HEAD = 12


class Fault(Exception):
    pass


class Oracle:
    """Point 51 once more, told from the octets and not from the parts."""

    def __init__(self, octets):
        self.octets = octets
        self.at = 0

    def take(self, size):
        if self.at + size > len(self.octets):
            raise Fault(len(self.octets))
        self.at += size
        return self.octets[self.at - size:self.at]

    def number(self, size):
        return sum(octet * 256 ** place for place, octet in enumerate(reversed(self.take(size))))

    def require(self, holds, place):
        if not holds:
            raise Fault(place)

    def addresses(self):
        place = self.at
        many = self.number(1)
        self.require(many <= 6, place)
        addresses = self.take(many)
        self.require(many > 0 and len(set(addresses)) == many, place)
        return tuple(addresses)

    def codes(self, most):
        place = self.at
        many = self.number(2)
        self.require(many <= most, place)
        return tuple(self.take(many))

    def message(self):
        number, place, stream = self.number(4), self.at, self.number(1)
        self.require(stream <= 15 or stream == 255, place)
        place, order = self.at, self.number(4)
        self.require(stream != 255 or order == 0, place)
        return number, None if stream == 255 else stream, order, self.codes(200)

    def parts(self, name):
        if name == "data":
            return self.message()
        if name == "frame":
            return *[self.number(4) for _ in range(4)], self.codes(10000)
        if name == "ack":
            up_to, place, many = self.number(4), self.at, self.number(1)
            self.require(many <= 32, place)
            return up_to, tuple(self.number(4) for _ in range(many))
        if name == "addresses":
            return self.number(4), self.addresses()
        if name in ("addresses_ack", "frame_ack"):
            return self.number(4),
        found = ()
        if name in ("init", "init_ack"):
            found = (self.addresses(),)
        if name in ("init_ack", "echo"):
            found += ((self.number(4), self.number(4), self.addresses()),)
        return found

    def row(self):
        sender = self.number(1)
        self.require(sender <= 1, 0)
        kind = self.number(1)
        self.require(kind <= 16, 1)
        ends = self.number(4), self.number(4), self.number(1), self.number(1)
        chunk = (KINDS[kind], *self.parts(KINDS[kind]))
        self.require(self.at == len(self.octets), self.at)
        return ("right" if sender else "left", *ends, chunk)


def told(octets):
    """The row of a packet, or the place of the fault."""
    try:
        return Oracle(octets).row()
    except Fault as fault:
        return fault.args[0]


def found(octets):
    try:
        return read_packet(octets).as_row()
    except MalformedPacket as error:
        return error.place


class ReadingCase(unittest.TestCase):
    def malformed(self, place, octets):
        with self.assertRaises(MalformedPacket) as caught:
            read_packet(octets)
        self.assertEqual(caught.exception.place, place, octets)

    def same(self, octets):
        """What is read is what the oracle tells; and what is a packet has these octets."""
        answer = found(octets)
        self.assertEqual(answer, told(octets), octets)
        if not isinstance(answer, int):
            sender, source, target, origin, goal, chunk = answer
            self.assertEqual(packet_octets(Packet(sender, source, target, origin=origin, goal=goal, chunk=chunk)), octets)


class TestRead(ReadingCase):
    def test_example(self):
        one = read_packet([0, 0, 0, 0, 0, 1, 0, 0, 0, 0, 1, 7, 2, 1, 2])
        self.assertIsInstance(one, Packet)
        self.assertEqual(one.as_row(), ("left", 1, 0, 1, 7, ("init", (1, 2))))

    def test_each_packet_is_read_back(self):
        for chunk in all_chunks():
            for sender in ("left", "right"):
                one = packet(chunk, sender)
                self.assertEqual(read_packet(packet_octets(one)).as_row(), one.as_row())
                self.assertEqual(read_packet(tuple(packet_octets(one))).as_row(), one.as_row())

    def test_kinds_of_values(self):
        one = read_packet(packet_octets(packet(("init_ack", (1, 2), (3, 4, (5, 6))))))
        self.assertEqual(one.chunk, ("init_ack", (1, 2), (3, 4, (5, 6))))
        self.assertIs(read_packet(packet_octets(packet(("data", 1, None, 0, ())))).chunk[2], None)


class TestCutAndChanged(ReadingCase):
    def test_cut_off_at_each_length(self):
        for chunk in all_chunks():
            octets = packet_octets(packet(chunk))
            for length in list(range(min(len(octets), 300))) + [len(octets) - 1]:
                self.malformed(length, octets[:length])

    def test_one_octet_more(self):
        for chunk in all_chunks():
            octets = packet_octets(packet(chunk))
            for more in (0, 1, 255):
                self.malformed(len(octets), octets + [more])
            self.malformed(len(octets), octets + [0] * 20)

    def test_each_octet_changed(self):
        for name in PARTS:
            for chunk in chunks_of(name):
                octets = packet_octets(packet(chunk))[:300]
                few = (0, 1, 6, 7, 16, 17, 33, 200, 255)
                for place in range(min(len(octets), 60)):
                    whole = chunk == right_chunk(name) and (place < 2 or place >= HEAD)
                    for value in range(256) if whole else few:
                        self.same(octets[:place] + [value] + octets[place + 1:])

    def test_drawn_octets(self):
        chance = chances(51)
        for _ in range(4000):
            head = [chance.randrange(2), chance.randrange(17)] + [chance.randrange(256) for _ in range(10)]
            self.same(head + [chance.choice((0, 0, 1, 2, 3, 6, 7, 255)) for _ in range(chance.randrange(25))])


class TestEachSentence(ReadingCase):
    def changed(self, chunk, place, *octets):
        """The octets of a packet with a chunk, others of which stand from a place of the parts on."""
        whole = packet_octets(packet(chunk))
        return whole[:HEAD + place] + list(octets) + whole[HEAD + place + len(octets):]

    def test_senders(self):
        octets = packet_octets(packet(("gone",)))
        for sender in (2, 3, 255):
            self.malformed(0, [sender] + octets[1:])
            self.malformed(0, [sender])

    def test_kind_numbers(self):
        octets = packet_octets(packet(("gone",)))
        for kind in (17, 18, 255):
            self.malformed(1, octets[:1] + [kind] + octets[2:])
            self.malformed(1, [0, kind])

    def test_no_octets(self):
        self.malformed(0, [])
        self.malformed(0, ())

    def test_numbers_of_addresses(self):
        for chunk, place in ((("init", (1, 2)), 0), (("addresses", 5, (1, 2)), 4), (("echo", (1, 2, (3, 4))), 8),
                             (("init_ack", (1, 2), (3, 4, (5, 6))), 0), (("init_ack", (1, 2), (3, 4, (5, 6))), 11)):
            for many in (0, 7, 8, 255):
                self.malformed(HEAD + place, self.changed(chunk, place, many))

    def test_a_number_above_6_is_looked_at_at_once(self):
        octets = packet_octets(packet(("init", (1, 2))))[:HEAD]
        self.malformed(HEAD, octets + [7])
        self.malformed(HEAD, octets + [7, 1, 2])
        self.malformed(HEAD, octets + [0])
        self.malformed(HEAD + 3, octets + [6, 1, 1])

    def test_two_addresses_that_are_alike(self):
        self.malformed(HEAD, self.changed(("init", (1, 2)), 1, 2))
        self.malformed(HEAD, self.changed(("init", (1, 2, 3)), 3, 1))
        self.malformed(HEAD + 4, self.changed(("addresses", 5, (1, 2)), 5, 2))
        self.malformed(HEAD + 8, self.changed(("echo", (1, 2, (3, 4))), 10, 3))
        self.malformed(HEAD + 11, self.changed(("init_ack", (1, 2), (3, 4, (5, 6))), 12, 6))
        self.malformed(HEAD, self.changed(("init_ack", (1, 2), (3, 4, (5, 6))), 2, 1))

    def test_streams(self):
        chunk = ("data", 1, 3, 0, (1, 2))
        for stream in (16, 17, 128, 254):
            self.malformed(HEAD + 4, self.changed(chunk, 4, stream))
            self.malformed(HEAD + 4, self.changed(chunk, 4, stream)[:HEAD + 5])
        for stream in (0, 15):
            self.assertEqual(read_packet(self.changed(chunk, 4, stream)).chunk, ("data", 1, stream, 0, (1, 2)))
        self.assertEqual(read_packet(self.changed(chunk, 4, 255)).chunk, ("data", 1, None, 0, (1, 2)))

    def test_the_place_of_an_unordered_message(self):
        chunk = ("data", 1, None, 0, (1, 2))
        for octets in ((0, 0, 0, 1), (1, 0, 0, 0), (255, 255, 255, 255), (0, 1, 0, 0)):
            self.malformed(HEAD + 5, self.changed(chunk, 5, *octets))
            # It is looked at before the number of codes is read.
            self.malformed(HEAD + 5, self.changed(chunk, 5, *octets)[:HEAD + 9])
        self.malformed(HEAD + 8, self.changed(chunk, 5, 0, 0, 0, 1)[:HEAD + 8])

    def test_numbers_of_codes(self):
        message, frame = ("data", 1, 3, 0, (1,) * 200), ("frame", 1, 2, 3, 4, (1,) * 10000)
        for octets in ((0, 201), (1, 0), (255, 255)):
            self.malformed(HEAD + 9, self.changed(message, 9, *octets))
            self.malformed(HEAD + 9, self.changed(message, 9, *octets)[:HEAD + 11])
        for octets in ((39, 17), (40, 0), (255, 255)):
            self.malformed(HEAD + 16, self.changed(frame, 16, *octets))
            self.malformed(HEAD + 16, self.changed(frame, 16, *octets)[:HEAD + 18])

    def test_numbers_of_an_acknowledgement(self):
        chunk = ("ack", 1, (1,) * 32)
        for many in (33, 34, 255):
            self.malformed(HEAD + 4, self.changed(chunk, 4, many))
            self.malformed(HEAD + 4, self.changed(chunk, 4, many)[:HEAD + 5])

    def test_any_tags_and_addresses(self):
        for octets in ([0] * 10, [255] * 10):
            one = read_packet([1, 10] + octets)
            tag = GREATEST if octets[0] else 0
            self.assertEqual(one.as_row(), ("right", tag, tag, octets[0], octets[0], ("gone",)))


class TestNoOctets(unittest.TestCase):
    def refused(self, octets):
        with self.assertRaises(InvalidArgument) as caught:
            read_packet(octets)
        self.assertEqual(caught.exception.name, "octets")

    def test_a_number_that_is_no_octet(self):
        octets = packet_octets(packet(("init", (1, 2))))
        for wrong in (-1, 256, 1000, True, False):
            for place in (0, 1, 7, len(octets) - 1):
                self.refused(octets[:place] + [wrong] + octets[place + 1:])
                self.refused(tuple(octets[:place] + [wrong] + octets[place + 1:]))
            self.refused([wrong])

    def test_ahead_of_any_other_fault(self):
        for wrong in (-1, 256):
            self.refused([9, 99, wrong])
            self.refused([9, wrong])
            self.refused(packet_octets(packet(("gone",))) + [0, wrong])
            self.refused(packet_octets(packet(("init", (1, 2))))[:-1] + [wrong])


class TestOwnership(unittest.TestCase):
    def test_octets_stay_and_may_be_changed_later(self):
        for chunk in all_chunks():
            octets = packet_octets(packet(chunk))
            kept = list(octets)
            one = read_packet(octets)
            self.assertEqual(octets, kept)
            octets.clear()
            self.assertEqual(one.as_row(), packet(chunk).as_row())
            self.assertEqual(packet_octets(one), kept)
