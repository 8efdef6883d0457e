import itertools
import random
import unittest

from fardesk.associations import Association, next_message
from fardesk.delivering import is_new, take_message


def messages(*streams):
    """The messages that giving on these streams adds."""
    other = Association(4, 3, (1,))
    for stream in streams:
        other.given.append(next_message(other, stream, (len(other.given),)))
    return other.given


def numbers(rows):
    return [row[0] for row in rows]


class DeliverCase(unittest.TestCase):
    def setUp(self):
        self.association = Association(3, 4, (7,))

    def take(self, *rows):
        for row in rows:
            self.assertIs(is_new(self.association, row[0], 500), True)
            self.assertIsNone(take_message(self.association, row))

    def state(self, up_to, arrived, waiting, delivered):
        association = self.association
        self.assertEqual((association.up_to, association.arrived), (up_to, arrived))
        self.assertEqual((numbers(association.waiting), numbers(association.delivered)), (waiting, delivered))


class TestOneStream(DeliverCase):
    def test_in_order(self):
        rows = messages(0, 0, 0)
        self.state(0, [], [], [])
        for row in rows:
            self.take(row)
            self.state(row[0], [], [], list(range(1, row[0] + 1)))
        self.assertEqual(self.association.delivered, rows)

    def test_reversed(self):
        one, two, three = messages(0, 0, 0)
        self.take(three)
        self.state(0, [3], [3], [])
        self.take(two)
        self.state(0, [2, 3], [3, 2], [])
        self.take(one)
        self.state(3, [], [], [1, 2, 3])

    def test_gaps(self):
        rows = messages(0, 0, 0, 0, 0, 0)
        self.take(rows[1], rows[4])
        self.state(0, [2, 5], [2, 5], [])
        self.take(rows[0])
        self.state(2, [5], [5], [1, 2])
        self.take(rows[3])
        self.state(2, [4, 5], [5, 4], [1, 2])
        self.take(rows[2])
        self.state(5, [], [], [1, 2, 3, 4, 5])

    def test_the_messages_are_kept_as_they_are(self):
        rows = messages(0, None)
        self.take(rows[1], rows[0])
        self.assertEqual(self.association.delivered, [rows[1], rows[0]])
        self.assertEqual(rows, messages(0, None))


class TestStreams(DeliverCase):
    def test_streams_do_not_wait_for_each_other(self):
        rows = messages(0, 1, 0, 1, 15)
        self.take(rows[2])
        self.state(0, [3], [3], [])
        self.take(rows[1])
        self.state(0, [2, 3], [3], [2])
        self.take(rows[4])
        self.state(0, [2, 3, 5], [3], [2, 5])
        self.take(rows[0])
        self.state(3, [5], [], [2, 5, 1, 3])
        self.take(rows[3])
        self.state(5, [], [], [2, 5, 1, 3, 4])

    def test_unordered_messages_never_wait(self):
        rows = messages(0, None, 0, None)
        self.take(rows[3], rows[2], rows[1])
        self.state(0, [2, 3, 4], [3], [4, 2])
        self.take(rows[0])
        self.state(4, [], [], [4, 2, 1, 3])

    def test_unordered_messages_do_not_count_as_messages_of_a_stream(self):
        rows = messages(None, None, 0)
        self.take(rows[0], rows[1], rows[2])
        self.state(3, [], [], [1, 2, 3])

    def test_the_order_of_several_that_are_delivered_at_once(self):
        # The first one that waits and can be delivered goes first, then all are looked at again.
        rows = messages(0, 0, 0, 0)
        self.take(rows[2], rows[3], rows[1])
        self.state(0, [2, 3, 4], [3, 4, 2], [])
        self.take(rows[0])
        self.state(4, [], [], [1, 2, 3, 4])
        self.assertEqual(self.association.waiting, [])

    def test_messages_with_the_same_place(self):
        # No end gives such messages; the first that waits is delivered.
        for row in ((2, 0, 1, (2,)), (3, 0, 1, (3,)), (4, 0, 2, (4,)), (1, 0, 0, (1,))):
            self.take(row)
        self.state(4, [], [3], [1, 2, 4])


class TestNew(unittest.TestCase):
    def test_the_window(self):
        for window in (1, 8, 32, 500):
            for up_to in (0, 1, 7, 300):
                association = Association(3, 4, (7,))
                association.up_to = up_to
                self.assertIs(is_new(association, up_to + 1, window), True)
                self.assertIs(is_new(association, up_to + window, window), True)
                for number in (up_to + window + 1, up_to, up_to - 1, 4294967295):
                    self.assertIs(is_new(association, number, window), False)

    def test_what_has_arrived(self):
        association = Association(3, 4, (7,))
        rows = messages(0, 0, 0, 0, 0)
        take_message(association, rows[0])
        take_message(association, rows[3])
        self.assertEqual([number for number in range(8) if is_new(association, number, 5)], [2, 3, 5, 6])

    def test_it_changes_nothing(self):
        association = Association(3, 4, (7,))
        take_message(association, messages(0, 0)[1])
        before = (association.up_to, list(association.arrived), list(association.waiting), list(association.delivered))
        for number in range(40):
            is_new(association, number, 8)
        self.assertEqual((association.up_to, association.arrived, association.waiting, association.delivered), before)


class TestAllOrders(unittest.TestCase):
    def check(self, rows, order):
        association = Association(3, 4, (7,))
        arrived = []
        for row in order:
            take_message(association, row)
            arrived.append(row[0])
            up_to = 0
            while up_to + 1 in arrived:
                up_to += 1
            self.assertEqual(association.up_to, up_to)
            self.assertEqual(association.arrived, sorted(number for number in arrived if number > up_to))
            self.assertEqual(sorted(numbers(association.delivered + association.waiting)), sorted(arrived))
            for stream in (0, 1):
                given = [row for row in rows if row[1] == stream]
                delivered = [row for row in association.delivered if row[1] == stream]
                self.assertEqual(delivered, given[:len(delivered)])
                # All that can be delivered is.
                rest = given[len(delivered):]
                self.assertTrue(not rest or rest[0][0] not in arrived)
            unordered = [row for row in order[:len(arrived)] if row[1] is None]
            self.assertEqual([row for row in association.delivered if row[1] is None], unordered)
        self.assertEqual(association.waiting, [])

    def test_all_orders_of_six(self):
        rows = messages(0, None, 1, 0, 0, 1)
        for order in itertools.permutations(rows):
            self.check(rows, order)

    def test_drawn_orders_of_many(self):
        chance = random.Random(54)
        for _ in range(30):
            rows = messages(*[chance.choice((0, 1, None)) for _ in range(30)])
            order = list(rows)
            chance.shuffle(order)
            self.check(rows, order)
