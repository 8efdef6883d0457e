import unittest

from fardesk.associations import Association, next_message, of_stream

MESSAGES = [
    (1, 0, 0, (1,)), (2, None, 0, (2,)), (3, 3, 0, ()), (4, 0, 1, (4,)), (5, None, 0, (5,)), (6, 15, 0, ()), (7, 0, 2, ()),
]


def give(association, stream, codes=()):
    """Give a message as an end does."""
    message = next_message(association, stream, codes)
    association.given.append(message)
    return message


def given_all():
    association = Association(1, 2, (7,))
    association.given.extend(MESSAGES)
    return association


class TestNew(unittest.TestCase):
    def test_attributes(self):
        for paths in ([7, 8], (7, 8)):
            association = Association(3, 4, paths)
            self.assertEqual((association.tag, association.peer, association.paths), (3, 4, (7, 8)))
            self.assertEqual((association.given, association.waiting, association.delivered), ([], [], []))
            self.assertEqual((association.sent, association.acked, association.up_to), (0, 0, 0))
            self.assertEqual((association.beyond, association.arrived), ([], []))
            self.assertEqual(association.closing, "no")

    def test_a_list_that_is_changed_later(self):
        paths = [7, 8]
        association = Association(3, 4, paths)
        paths.append(9)
        self.assertEqual(association.paths, (7, 8))
        self.assertEqual(paths, [7, 8, 9])

    def test_associations_share_nothing(self):
        first, second = Association(3, 4, [7]), Association(3, 4, [7])
        for row in (first.given, first.waiting, first.delivered, first.beyond, first.arrived):
            row.append(1)
        self.assertEqual((second.given, second.waiting, second.delivered, second.beyond, second.arrived),
                         ([], [], [], [], []))
        self.assertEqual((first.given, first.waiting, first.delivered, first.beyond, first.arrived),
                         ([1], [1], [1], [1], [1]))


class TestNextMessage(unittest.TestCase):
    def test_messages_on_several_streams(self):
        association = Association(1, 2, (7,))
        for message in MESSAGES:
            self.assertEqual(give(association, message[1], message[3]), message)
        self.assertEqual(association.given, MESSAGES)

    def test_places_on_one_stream(self):
        for stream in (0, 1, 15):
            association = Association(1, 2, (7,))
            rows = [give(association, stream, (number,)) for number in range(5)]
            self.assertEqual(rows, [(number + 1, stream, number, (number,)) for number in range(5)])

    def test_unordered_messages_have_the_place_0(self):
        association = Association(1, 2, (7,))
        self.assertEqual([give(association, None) for _ in range(3)],
                         [(1, None, 0, ()), (2, None, 0, ()), (3, None, 0, ())])

    def test_unordered_messages_do_not_count_on_streams(self):
        association = Association(1, 2, (7,))
        give(association, None)
        self.assertEqual(give(association, 0), (2, 0, 0, ()))
        give(association, None)
        give(association, 1)
        self.assertEqual(next_message(association, 0, ()), (5, 0, 1, ()))

    def test_it_adds_nothing(self):
        association = given_all()
        for stream, message in ((0, (8, 0, 3, (9,))), (15, (8, 15, 1, (9,))), (7, (8, 7, 0, (9,))),
                                (None, (8, None, 0, (9,)))):
            self.assertEqual(next_message(association, stream, (9,)), message)
            self.assertEqual(next_message(association, stream, [9]), message)
            self.assertEqual(association.given, MESSAGES)

    def test_codes_that_are_changed_later(self):
        association = Association(1, 2, (7,))
        codes = [1, 2]
        message = give(association, 0, codes)
        codes.append(3)
        self.assertEqual((message, codes), ((1, 0, 0, (1, 2)), [1, 2, 3]))
        self.assertEqual(association.given, [(1, 0, 0, (1, 2))])


class TestOfStream(unittest.TestCase):
    def test_streams(self):
        self.assertEqual(of_stream(MESSAGES, 0), [MESSAGES[0], MESSAGES[3], MESSAGES[6]])
        self.assertEqual(of_stream(MESSAGES, 3), [MESSAGES[2]])
        self.assertEqual(of_stream(MESSAGES, 15), [MESSAGES[5]])

    def test_unordered_messages(self):
        self.assertEqual(of_stream(MESSAGES, None), [MESSAGES[1], MESSAGES[4]])

    def test_streams_without_a_message(self):
        for stream in (1, 2, 14):
            self.assertEqual(of_stream(MESSAGES, stream), [])
        self.assertEqual(of_stream(MESSAGES[:1], None), [])
        for stream in (None, 0):
            self.assertEqual(of_stream([], stream), [])

    def test_the_order_of_the_list_holds(self):
        self.assertEqual(of_stream([MESSAGES[6], MESSAGES[1], MESSAGES[0]], 0), [MESSAGES[6], MESSAGES[0]])

    def test_lists(self):
        messages = list(MESSAGES)
        row = of_stream(messages, 0)
        row.clear()
        of_stream(messages, 3).append(1)
        self.assertEqual(messages, MESSAGES)
        self.assertEqual(of_stream(messages, 0), [MESSAGES[0], MESSAGES[3], MESSAGES[6]])
        row = of_stream(messages, 0)
        messages.clear()
        self.assertEqual(row, [MESSAGES[0], MESSAGES[3], MESSAGES[6]])


class TestMethods(unittest.TestCase):
    def test_message(self):
        association = given_all()
        for number in range(1, 8):
            self.assertEqual(association.message(number), MESSAGES[number - 1])

    def test_has_tags(self):
        association = Association(3, 4, (7,))
        self.assertIs(association.has_tags(3, 4), True)
        for tag, peer in ((4, 3), (3, 3), (4, 4), (3, 5), (2, 4), (0, 0)):
            self.assertIs(association.has_tags(tag, peer), False)

    def test_all_acked(self):
        association = Association(3, 4, (7,))
        self.assertIs(association.all_acked(), True)
        give(association, 0)
        self.assertIs(association.all_acked(), False)
        give(association, 0)
        association.acked = 1
        self.assertIs(association.all_acked(), False)
        association.acked = 2
        self.assertIs(association.all_acked(), True)
        # Acknowledgements that no end sends can go beyond the given messages.
        association.acked = 5
        self.assertIs(association.all_acked(), True)

    def test_what_is_acknowledged_beyond_does_not_count(self):
        association = given_all()
        association.beyond = [3, 4, 5, 6, 7]
        association.acked = 1
        self.assertIs(association.all_acked(), False)
