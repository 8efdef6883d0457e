import random
import unittest

from fardesk.associations import Association, gathered, next_message
from fardesk.sending import fate_of, in_flight, is_acked, release, report_of, take_ack

STREAMS = (0, 0, None, 1, 0, 1, None, 15)


def with_given(many, streams=(0,)):
    association = Association(3, 4, (7,))
    for place in range(many):
        association.given.append(next_message(association, streams[place % len(streams)], (place % 256,)))
    return association


def state(association):
    return (association.tag, association.peer, association.paths, list(association.given), association.sent,
            association.acked, list(association.beyond), association.up_to, list(association.arrived),
            list(association.waiting), list(association.delivered), association.closing)


class TestGathered(unittest.TestCase):
    def test_it(self):
        for up_to, numbers, expected in (
                (0, [], (0, [])), (0, [1], (1, [])), (0, [2], (0, [2])), (3, [1, 2, 3], (3, [])), (3, [5, 4, 4], (5, [])),
                (3, [9, 6, 4, 6], (4, [6, 9])), (0, [3, 2, 1], (3, [])), (7, [6, 10, 8], (8, [10]))):
            kept = list(numbers)
            self.assertEqual(gathered(up_to, numbers), expected)
            self.assertEqual(numbers, kept)


class TestRelease(unittest.TestCase):
    def test_windows(self):
        for window, first in ((1, 1), (8, 8), (32, 32), (100, 40), (40, 40), (39, 39), (41, 40)):
            association = with_given(40)
            self.assertEqual(release(association, window), list(range(1, first + 1)))
            self.assertEqual((association.sent, association.acked), (first, 0))
            self.assertEqual(in_flight(association), list(range(1, first + 1)))

    def test_nothing_given(self):
        for window in (1, 8, 32, 100):
            association = with_given(0)
            self.assertEqual(release(association, window), [])
            self.assertEqual((association.sent, in_flight(association)), (0, []))

    def test_released_twice(self):
        association = with_given(20)
        release(association, 8)
        before = state(association)
        self.assertEqual(release(association, 8), [])
        self.assertEqual(state(association), before)

    def test_giving_more(self):
        association = with_given(2)
        self.assertEqual(release(association, 3), [1, 2])
        association.given.append(next_message(association, 0, ()))
        self.assertEqual(release(association, 3), [3])
        association.given.append(next_message(association, 0, ()))
        self.assertEqual(release(association, 3), [])
        self.assertEqual(in_flight(association), [1, 2, 3])

    def test_the_window_opens_in_part(self):
        association = with_given(20)
        release(association, 8)
        take_ack(association, 3, (5,))
        self.assertEqual(in_flight(association), [4, 6, 7, 8])
        # What is acknowledged beyond does not open the window.
        self.assertEqual(release(association, 8), [9, 10, 11])
        self.assertEqual(in_flight(association), [4, 6, 7, 8, 9, 10, 11])
        take_ack(association, 4, ())
        self.assertEqual(association.acked, 5)
        self.assertEqual(release(association, 8), [12, 13])
        take_ack(association, 13, ())
        self.assertEqual(in_flight(association), [])
        self.assertEqual(release(association, 8), list(range(14, 21)))
        take_ack(association, 20, ())
        self.assertEqual((release(association, 8), in_flight(association)), ([], []))

    def test_a_lesser_window_than_before(self):
        association = with_given(20)
        release(association, 8)
        take_ack(association, 2, ())
        self.assertEqual(release(association, 1), [])
        self.assertEqual(association.sent, 8)
        self.assertEqual(in_flight(association), [3, 4, 5, 6, 7, 8])
        take_ack(association, 7, ())
        self.assertEqual(release(association, 1), [])
        take_ack(association, 8, ())
        self.assertEqual(release(association, 1), [9])
        self.assertEqual(release(association, 3), [10, 11])

    def test_acknowledged_before_it_was_sent(self):
        association = with_given(6)
        release(association, 2)
        take_ack(association, 2, (4,))
        self.assertEqual(release(association, 2), [3, 4])
        self.assertEqual(in_flight(association), [3])
        take_ack(association, 90, ())
        self.assertEqual(release(association, 2), [5, 6])
        self.assertEqual((association.sent, in_flight(association)), (6, []))

    def test_returned_lists_are_the_callers(self):
        association = with_given(5)
        release(association, 3).clear()
        in_flight(association).clear()
        self.assertEqual(in_flight(association), [1, 2, 3])
        self.assertEqual(association.sent, 3)


class TestAcknowledging(unittest.TestCase):
    def acked(self, association, up_to, beyond):
        self.assertEqual((association.acked, association.beyond), (up_to, beyond))
        for number in range(1, 30):
            self.assertIs(is_acked(association, number), number <= up_to or number in beyond)

    def sent(self, many=20):
        association = with_given(many)
        release(association, 100)
        return association

    def test_nothing(self):
        self.acked(self.sent(), 0, [])

    def test_up_to(self):
        association = self.sent()
        self.assertIsNone(take_ack(association, 4, ()))
        self.acked(association, 4, [])

    def test_old_and_doubled(self):
        association = self.sent()
        take_ack(association, 4, (6, 9))
        for up_to, beyond in ((0, ()), (3, ()), (4, ()), (4, (6, 9)), (2, (3, 6)), (4, (9,)), (0, (1, 2, 4))):
            take_ack(association, up_to, beyond)
            self.acked(association, 4, [6, 9])

    def test_gaps_that_close_later(self):
        association = self.sent()
        take_ack(association, 0, (2, 5))
        self.acked(association, 0, [2, 5])
        take_ack(association, 0, (3,))
        self.acked(association, 0, [2, 3, 5])
        take_ack(association, 1, ())
        self.acked(association, 3, [5])
        take_ack(association, 0, (4, 8))
        self.acked(association, 5, [8])
        take_ack(association, 7, ())
        self.acked(association, 8, [])
        take_ack(association, 0, (9,))
        self.acked(association, 9, [])

    def test_up_to_within_what_is_beyond(self):
        association = self.sent()
        take_ack(association, 0, (3, 6, 7, 12))
        take_ack(association, 6, ())
        self.acked(association, 7, [12])

    def test_beyond_in_any_order_and_with_doubles(self):
        association = self.sent()
        beyond = (9, 3, 9, 5, 3)
        take_ack(association, 1, beyond)
        self.assertEqual(beyond, (9, 3, 9, 5, 3))
        self.acked(association, 1, [3, 5, 9])
        take_ack(association, 1, tuple(range(20, 1, -1)) * 3)
        self.acked(association, 20, [])

    def test_many_numbers_at_once(self):
        association = self.sent(500)
        take_ack(association, 0, tuple(range(2, 501)))
        self.assertEqual((association.acked, association.beyond), (0, list(range(2, 501))))
        take_ack(association, 1, ())
        self.assertEqual((association.acked, association.beyond), (500, []))

    def test_more_than_were_given(self):
        association = self.sent(3)
        take_ack(association, 1, (3, 4, 4294967295))
        self.acked(association, 1, [3, 4, 4294967295])
        take_ack(association, 2, ())
        self.acked(association, 4, [4294967295])
        self.assertTrue(association.all_acked())
        take_ack(association, 4294967295, ())
        self.assertEqual((association.acked, association.beyond), (4294967295, []))
        self.assertEqual((release(association, 8), in_flight(association)), ([], []))
        association.given.append(next_message(association, 0, ()))
        self.assertEqual(release(association, 8), [4])
        self.assertEqual(in_flight(association), [])

    def test_nothing_else_changes(self):
        association = self.sent(5)
        given = list(association.given)
        take_ack(association, 2, (4,))
        self.assertEqual(state(association), (3, 4, (7,), given, 5, 2, [4], 0, [], [], [], "no"))

    def test_drawn_acknowledgements(self):
        chance = random.Random(55)
        for _ in range(200):
            association = self.sent()
            known = []
            for _ in range(8):
                up_to = chance.randrange(6) if chance.random() < 0.7 else chance.randrange(22)
                beyond = tuple(chance.randrange(1, 24) for _ in range(chance.randrange(6)))
                take_ack(association, up_to, beyond)
                known.extend(range(1, up_to + 1))
                known.extend(beyond)
                acked = 0
                while acked + 1 in known:
                    acked += 1
                self.acked(association, acked, sorted({number for number in known if number > acked}))
                self.assertEqual(in_flight(association), [n for n in range(1, 21) if n not in known])


class TestFates(unittest.TestCase):
    # The numbers of the messages with the streams of STREAMS: 0 has 1, 2 and 5, 1 has 4 and 6, 15 has 8.
    def fates(self, association):
        before = state(association)
        fates = tuple(fate_of(association, number) for number in range(1, len(association.given) + 1))
        for _ in range(2):
            self.assertEqual(report_of(association, "aborted"), (3, 4, "aborted", fates))
        self.assertEqual(state(association), before)
        return fates

    def made(self, sent, up_to=0, beyond=()):
        association = with_given(8, STREAMS)
        release(association, sent)
        take_ack(association, up_to, beyond)
        return association

    def test_nothing_given(self):
        self.assertEqual(report_of(with_given(0), "gone"), (3, 4, "gone", ()))

    def test_unsent(self):
        self.assertEqual(self.fates(with_given(8, STREAMS)), ("unsent",) * 8)
        self.assertEqual(self.fates(self.made(3)), ("unsure",) * 3 + ("unsent",) * 5)

    def test_all_delivered(self):
        self.assertEqual(self.fates(self.made(8, 8)), ("delivered",) * 8)

    def test_acknowledged_up_to(self):
        self.assertEqual(self.fates(self.made(7, 3)), ("delivered",) * 3 + ("unsure",) * 4 + ("unsent",))

    def test_an_earlier_message_of_the_stream_is_not_acknowledged(self):
        fates = self.fates(self.made(8, 0, (2, 3, 4, 5, 6, 7, 8)))
        self.assertEqual(fates, ("unsure", "unsure", "delivered", "delivered", "unsure", "delivered", "delivered", "delivered"))

    def test_a_message_of_another_stream_is_not_acknowledged(self):
        fates = self.fates(self.made(8, 3, (5, 6)))
        self.assertEqual(fates, ("delivered",) * 3 + ("unsure", "delivered", "unsure", "unsure", "unsure"))

    def test_unordered(self):
        fates = self.fates(self.made(8, 0, (7,)))
        self.assertEqual(fates, ("unsure",) * 6 + ("delivered", "unsure"))

    def test_acknowledged_but_never_sent(self):
        association = self.made(2, 0, (1, 2, 3))
        self.assertEqual(self.fates(association), ("delivered", "delivered") + ("unsent",) * 6)

    def test_how_it_ended(self):
        for ended in ("complete", "gone", "replaced", "aborted", "aborted by the other end"):
            association = self.made(8, 8)
            self.assertEqual(report_of(association, ended), (3, 4, ended, ("delivered",) * 8))

    def test_many(self):
        association = with_given(500)
        release(association, 500)
        take_ack(association, 499, ())
        self.assertEqual(report_of(association, "gone")[3], ("delivered",) * 499 + ("unsure",))
