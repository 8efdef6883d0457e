import unittest

from fardesk.errors import MalformedPacket
from fardesk.octets import OctetReader, four_octets, two_octets

NUMBERS = {
    0: [0, 0, 0, 0], 1: [0, 0, 0, 1], 255: [0, 0, 0, 255], 256: [0, 0, 1, 0], 65535: [0, 0, 255, 255],
    65536: [0, 1, 0, 0], 16777215: [0, 255, 255, 255], 16777216: [1, 0, 0, 0], 0x01020304: [1, 2, 3, 4],
    0x80000000: [128, 0, 0, 0], 4294967295: [255, 255, 255, 255],
}


class TestNumbers(unittest.TestCase):
    def test_two_octets(self):
        for number, octets in ((0, [0, 0]), (1, [0, 1]), (255, [0, 255]), (256, [1, 0]), (257, [1, 1]),
                               (0x1234, [0x12, 0x34]), (65280, [255, 0]), (65535, [255, 255])):
            self.assertEqual(two_octets(number), octets)

    def test_four_octets(self):
        for number, octets in NUMBERS.items():
            self.assertEqual(four_octets(number), octets)

    def test_numbers_beyond_the_bounds_are_no_errors(self):
        two_octets(65536)
        four_octets(4294967296)

    def test_returned_lists_are_the_callers(self):
        two_octets(7).clear()
        four_octets(7).clear()
        self.assertEqual((two_octets(7), four_octets(7)), ([0, 7], [0, 0, 0, 7]))


class ReaderCase(unittest.TestCase):
    def malformed(self, place, call, *arguments):
        with self.assertRaises(MalformedPacket) as caught:
            call(*arguments)
        self.assertEqual(caught.exception.place, place)


class TestReading(ReaderCase):
    def test_one(self):
        reader = OctetReader([5, 0, 255])
        self.assertEqual(reader.place(), 0)
        for place, octet in enumerate((5, 0, 255)):
            self.assertEqual(reader.one(), octet)
            self.assertEqual(reader.place(), place + 1)
        self.malformed(3, reader.one)

    def test_two(self):
        reader = OctetReader([9, 1, 2, 255, 255, 0, 255])
        reader.one()
        for place, number in ((3, 258), (5, 65535), (7, 255)):
            self.assertEqual(reader.two(), number)
            self.assertEqual(reader.place(), place)
        self.malformed(7, reader.two)

    def test_four(self):
        for number, octets in NUMBERS.items():
            reader = OctetReader([9] + octets + [7])
            reader.one()
            self.assertEqual(reader.four(), number)
            self.assertEqual(reader.place(), 5)
            self.assertEqual(reader.one(), 7)

    def test_each_one_just_before_the_end(self):
        for many in range(2):
            self.malformed(many, OctetReader([1] * many).two)
        for many in range(4):
            self.malformed(many, OctetReader([1] * many).four)
            self.malformed(many, OctetReader([1] * many).many, many + 1)
        for many in range(8):
            self.malformed(many, OctetReader([1] * many).fours, 2)
        self.malformed(0, OctetReader([]).one)
        self.malformed(0, OctetReader([]).limited, 255)
        self.malformed(0, OctetReader([]).many, 1)
        self.malformed(0, OctetReader([]).fours, 1)

    def test_behind_octets_that_were_read(self):
        for name, arguments, size in (("one", (), 1), ("two", (), 2), ("four", (), 4), ("limited", (255,), 1),
                                      ("many", (3,), 3), ("fours", (2,), 8)):
            for left in range(size):
                reader = OctetReader([1] * (5 + left))
                reader.many(5)
                self.malformed(5 + left, getattr(reader, name), *arguments)
            reader = OctetReader([1] * (5 + size))
            reader.many(5)
            getattr(reader, name)(*arguments)
            self.assertEqual(reader.place(), 5 + size, name)
            self.assertIsNone(reader.finish())

    def test_limited(self):
        reader = OctetReader([6, 7, 8, 0])
        self.assertEqual((reader.limited(7), reader.limited(7)), (6, 7))
        self.malformed(2, reader.limited, 7)
        self.assertEqual(OctetReader([0]).limited(0), 0)
        self.assertEqual(OctetReader([255]).limited(255), 255)
        self.malformed(0, OctetReader([1]).limited, 0)
        self.malformed(0, OctetReader([255, 1, 1]).limited, 254)

    def test_many(self):
        reader = OctetReader([1, 2, 3, 4])
        self.assertEqual(reader.many(0), ())
        self.assertEqual(reader.many(3), (1, 2, 3))
        self.assertEqual(reader.place(), 3)
        self.assertEqual(reader.many(1), (4,))
        self.assertEqual(reader.many(0), ())
        self.assertEqual(reader.place(), 4)

    def test_fours(self):
        reader = OctetReader([0, 0, 1, 0, 255, 255, 255, 255, 0, 0, 0, 7])
        self.assertEqual(reader.fours(0), ())
        self.assertEqual(reader.fours(2), (256, 4294967295))
        self.assertEqual(reader.place(), 8)
        self.assertEqual(reader.fours(1), (7,))
        self.assertEqual(reader.fours(0), ())
        self.assertEqual(reader.place(), 12)

    def test_finish(self):
        self.assertIsNone(OctetReader([]).finish())
        self.malformed(0, OctetReader([1]).finish)
        reader = OctetReader([1, 2, 3])
        reader.two()
        self.malformed(2, reader.finish)
        reader = OctetReader([1, 2, 3])
        reader.many(3)
        self.assertIsNone(reader.finish())
        self.assertIsNone(reader.finish())


class TestOctets(ReaderCase):
    def test_lists_and_tuples(self):
        for octets in ([1, 2, 3, 4, 5], (1, 2, 3, 4, 5)):
            reader = OctetReader(octets)
            self.assertEqual((reader.one(), reader.many(2), reader.two()), (1, (2, 3), 4 * 256 + 5))
            self.assertEqual(reader.place(), 5)

    def test_a_list_that_is_changed_later(self):
        octets = [1, 2, 3]
        reader = OctetReader(octets)
        octets[0] = 9
        octets.append(4)
        self.assertEqual(reader.many(3), (1, 2, 3))
        self.assertIsNone(reader.finish())
        self.assertEqual(octets, [9, 2, 3, 4])

    def test_readers_share_nothing(self):
        first, second = OctetReader([1, 2]), OctetReader([1, 2])
        first.one()
        self.assertEqual((first.place(), second.place()), (1, 0))
