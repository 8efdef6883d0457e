import unittest

from fardesk.errors import NoWay, TooManyPackets
from fardesk.homeward import bring_home, is_pair
from tests.afar import EDITOR, everything, joined, kinds_since, made, open_from, places_of
from tests.helpers import look, text
from tests.nets import SIDES, deliver_all


class HomeCase(unittest.TestCase):
    def check_home(self, session):
        self.assertEqual(session.sure(), session.desk_screen())
        desk, seat = session.echo()
        self.assertEqual(desk, seat)
        tags = session.association("left")[:2]
        typed = [row for row in session.typed() if row[:2] == tags]
        self.assertEqual([row for row in session.done() if row[:2] == tags], typed)
        self.assertEqual(desk, len(typed))

    def home(self, session, here=1, there=2):
        """Everything is brought home; the number of packets that have arrived."""
        row = session.association("left")
        waiting = row[3] - row[5] - len(row[6])
        arrived = bring_home(session, here, there)
        self.assertLessEqual(arrived, 4 * waiting + 12)
        self.check_home(session)
        return arrived

    def no_way(self, session, here=1, there=2):
        before = everything(session)
        self.assertIs(is_pair(session, here, there), False)
        with self.assertRaises(NoWay):
            bring_home(session, here, there)
        self.assertEqual(everything(session), before)


class TestPairs(HomeCase):
    def test_all_conditions_hold(self):
        session = joined(seat=(1, 3), desk=(2, 4))
        before = everything(session)
        for here in (1, 3):
            for there in (2, 4):
                self.assertIs(is_pair(session, here, there), True)
        self.assertEqual(everything(session), before)

    def test_no_association(self):
        self.no_way(made())
        for side in SIDES:
            session = joined()
            session.restart(side)
            self.no_way(session)
            session.restart({"left": "right", "right": "left"}[side])
            self.no_way(session)

    def test_one_end_only(self):
        session = made()
        session.connect("left", 2)
        for place in range(3):
            self.no_way(session)
            session.deliver(place)
        self.no_way(session)
        session.deliver(3)
        self.assertTrue(is_pair(session, 1, 2))

    def test_different_associations(self):
        # The right end has replaced the association; the left end still has the older one.
        session = made()
        session.connect("right", 1)
        deliver_all(session, 0)
        session.restart("right")
        start = session.packets_sent()
        session.connect("right", 1)
        for place in range(start, start + 3):
            session.deliver(place)
        self.no_way(session)
        session = joined()
        session.restart("left")
        start = session.packets_sent()
        session.connect("left", 2)
        for place in range(start, start + 3):
            session.deliver(place)
        self.no_way(session)
        session.deliver(start + 3)
        self.assertTrue(is_pair(session, 1, 2))

    def test_one_tag_is_another_one(self):
        # Both ends have an association with one tag in common.
        for side in SIDES:
            session = joined()
            ends = session.network.ends
            ends[side].association.tag = 7
            self.no_way(session)
            session = joined()
            session.network.ends[side].association.peer = 7
            self.no_way(session)

    def test_unlike_tags(self):
        session = made()
        session.connect("left", 2)
        session.deliver(0)
        session.deliver(0)
        deliver_all(session, 2)
        self.assertEqual([session.association(side)[:2] for side in SIDES], [(1, 2), (2, 1)])
        self.assertTrue(is_pair(session, 1, 2))

    def test_closing(self):
        for side in SIDES:
            session = joined()
            session.press(97)
            session.finish(side)
            self.no_way(session)
        session = joined()
        session.press(97)
        session.finish("right")
        session.deliver(5)
        self.no_way(session)
        session = joined()
        session.finish("left")
        session.deliver(4)
        self.no_way(session)

    def test_here(self):
        session = joined(seat=(1, 3), desk=(2, 4))
        for here in (2, 4, 5, 0):
            self.no_way(session, here, 2)
        # 5 is an address of the left end, but no path of the right one.
        session.set_addresses("left", (1, 5))
        self.no_way(session, 5, 2)
        # 3 is a path of the right end, but no address of the left one.
        self.no_way(session, 3, 2)
        self.assertTrue(is_pair(session, 1, 2))
        session.deliver(4)
        self.assertTrue(is_pair(session, 5, 2))
        self.no_way(session, 3, 2)

    def test_there(self):
        session = joined(seat=(1, 3), desk=(2, 4))
        for there in (1, 3, 6, 0):
            self.no_way(session, 1, there)
        session.set_addresses("right", (6, 2))
        self.no_way(session, 1, 6)
        self.no_way(session, 1, 4)
        self.assertTrue(is_pair(session, 1, 2))
        session.deliver(4)
        self.assertTrue(is_pair(session, 1, 6))
        self.no_way(session, 1, 4)


class TestHome(HomeCase):
    def test_nothing_to_do(self):
        session = joined()
        start = session.packets_sent()
        self.assertEqual(self.home(session), 0)
        self.assertEqual(session.packets_sent(), start)
        self.assertEqual([session.status(side)[6] for side in SIDES], [1, 1])

    def test_keys_that_got_lost(self):
        session = joined(EDITOR)
        for key in text("abc"):
            session.press(key)
        start = session.packets_sent()
        self.assertEqual(self.home(session), 12)
        # The frames travel over the one pair, too.
        kinds = ["data"] * 3 + ["ack", "frame"] * 3 + ["frame_ack"] * 3
        self.assertEqual(sorted(kinds_since(session, start)), sorted(kinds))
        self.assertEqual(session.sure(), look(4, 12, "abc"))
        self.assertEqual(session.guesses(), (3, 0, 0))

    def test_the_order_of_the_indices(self):
        session = joined()
        for key in text("ab"):
            session.press(key)
        start = session.packets_sent()
        self.home(session)
        kinds = ["data", "data", "ack", "frame", "ack", "frame", "frame_ack", "frame_ack"]
        self.assertEqual(kinds_since(session, start), kinds)

    def test_more_keys_than_the_window(self):
        for window in (1, 2, 8, 32):
            session = joined(EDITOR, window=window, columns=40)
            for key in text("the quick brown fox jumps over the lazy dog"):
                session.press(key)
            self.home(session)
            self.assertEqual(session.association("left")[3:6], (43, 43, 43))

    def test_acknowledgements_that_got_lost(self):
        session = joined()
        for key in text("abc"):
            session.press(key)
        for place in (4, 5, 6):
            session.deliver(place)
        for place in places_of(session, "frame"):
            session.deliver(place)
        start = session.packets_sent()
        # Three keys again, and a frame whose acknowledgement was lost.
        self.assertEqual(self.home(session), 8)
        self.assertEqual(kinds_since(session, start), ["data"] * 3 + ["ack"] * 3 + ["frame", "frame_ack"])

    def test_screens_that_got_lost(self):
        session = joined()
        for key in text("abc"):
            session.press(key)
        for place in (4, 5, 6):
            session.deliver(place)
        for place in places_of(session, "ack"):
            session.deliver(place)
        start = session.packets_sent()
        self.assertEqual(self.home(session), 2)
        self.assertEqual(kinds_since(session, start), ["frame", "frame_ack"])
        self.assertEqual([row[2] for row in session.looks()], [3])

    def test_older_packets_do_not_arrive(self):
        session = joined()
        session.press(97)
        for place in (4, 5):
            session.deliver(place)
        # The frame 6 is late; only the one that is sent again arrives.
        self.assertEqual(self.home(session), 2)
        self.assertEqual(session.deliver(6), "frame")
        self.assertEqual(len(session.looks()), 1)

    def test_twice(self):
        session = joined()
        for key in text("abc"):
            session.press(key)
        self.home(session)
        before = session.packets_sent(), session.typed(), session.done(), session.looks()
        self.assertEqual(self.home(session), 0)
        self.assertEqual((session.packets_sent(), session.typed(), session.done(), session.looks()), before)

    def test_too_many_states(self):
        session = joined(EDITOR, window=32, columns=40)
        for _ in range(45):
            session.press(120)
            session.deliver(places_of(session, "data")[-1])
            session.deliver(places_of(session, "ack")[-1])
        # The newest state that was told, and then the screen of now.
        self.assertEqual(self.home(session), 4)
        self.assertEqual(session.echo(), (45, 45))

    def test_an_association_from_either_end(self):
        for side in SIDES:
            session = joined(EDITOR, side)
            for key in text("ab"):
                session.press(key)
            self.home(session)
            session.restart("left")
            session.restart("right")
            open_from(session, side)
            # Only the screen of the desk is brought home; the keys of before are none of this association.
            self.assertEqual(self.home(session), 2)
            self.assertEqual((session.sure(), session.echo()), (look(4, 12, "ab"), (0, 0)))


class TestAddresses(HomeCase):
    def lost(self, seat=(1, 3), desk=(2, 4, 6)):
        session = joined(EDITOR, seat=seat, desk=desk)
        for key in text("abcd"):
            session.press(key)
        session.deliver(4)
        session.deliver(5)
        return session

    def test_one_of_several_pairs(self):
        for here in (1, 3):
            for there in (2, 4, 6):
                session = self.lost()
                self.home(session, here, there)
                self.assertEqual(session.sure(), look(4, 12, "abcd"))
                # As many time-outs as there are pairs.
                self.assertEqual([session.status(side)[6] for side in SIDES], [6, 6])
                # Nothing has arrived over another pair: both turns come from timing out alone.
                self.assertEqual(session.association("left")[5], 4)

    def test_only_packets_over_the_pair_arrive(self):
        session = self.lost()
        arrived = []
        deliver = session.network.deliver

        def watched(place):
            arrived.append(place)
            return deliver(place)
        session.network.deliver = watched
        start = session.packets_sent()
        self.assertEqual(bring_home(session, 3, 6), len(arrived))
        self.assertEqual(len(set(arrived)), len(arrived))
        for place in range(start, session.packets_sent()):
            packet = session.packet(place)
            way = (packet.origin, packet.goal) if packet.sender == "left" else (packet.goal, packet.origin)
            self.assertEqual(way == (3, 6), place in arrived)
        self.assertTrue(all(place >= start for place in arrived))

    def test_like_addresses_at_both_ends(self):
        # The same numbers at both ends: which of them is meant depends on who sends.
        session = joined(EDITOR, seat=(1, 2), desk=(2, 1))
        for key in text("ab"):
            session.press(key)
        self.home(session, 1, 2)
        for key in text("cd"):
            session.press(key)
        self.home(session, 2, 2)
        self.assertEqual(session.sure(), look(4, 12, "abcd"))

    def test_a_change_of_addresses_that_is_not_acknowledged(self):
        for side in SIDES:
            session = self.lost()
            own = {"left": (9, 3, 8), "right": (6, 9)}[side]
            session.set_addresses(side, own)
            self.home(session, 3, 6)
            self.assertEqual(session.association({"left": "right", "right": "left"}[side])[2], own)
            # The left end had six pairs; the right end counts its own when its part begins.
            turns = {"left": [9, 9], "right": [6, 4]}[side]
            self.assertEqual([session.status(end)[6] for end in SIDES], turns)
            self.assertEqual([session.time_out(end) for end in SIDES], [0, 0])

    def test_turns_that_are_not_0(self):
        for turns in range(1, 14):
            session = self.lost()
            for _ in range(turns):
                session.time_out("left")
                session.time_out("right")
            self.home(session, 3, 4)


class TestNoRoom(HomeCase):
    def crowded(self, many):
        session = joined()
        for key in text("abc"):
            session.press(key)
        while session.packets_sent() < many:
            session.probe("left")
        return session

    def test_the_first_time_out(self):
        session = self.crowded(3001)
        before = everything(session)
        self.assertTrue(is_pair(session, 1, 2))
        with self.assertRaises(TooManyPackets):
            bring_home(session, 1, 2)
        self.assertEqual(everything(session), before)

    def test_on_the_way(self):
        session = self.crowded(2998)
        with self.assertRaises(TooManyPackets):
            bring_home(session, 1, 2)
        # What has happened by then stays: the three keys were sent again, and there was no room left.
        self.assertEqual(session.packets_sent(), 3001)
        self.assertEqual((session.done(), session.status("left")[6]), ([], 1))
        session = self.crowded(2997)
        with self.assertRaises(TooManyPackets):
            bring_home(session, 1, 2)
        self.assertEqual([row[2] for row in session.done()], [97])
        self.assertEqual(kinds_since(session, 3000), ["ack"])

    def test_no_way_goes_first(self):
        session = self.crowded(3001)
        self.no_way(session, 1, 3)
