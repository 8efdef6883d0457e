import unittest

from fardesk.differences import difference
from fardesk.screens import blank_screen
from fardesk.states import Hearer, Teller
from tests.afar import (
    ECHO, EDITOR, everything, joined, kinds_since, made, open_from, places_of, shown_by,
)
from tests.helpers import look, text
from tests.nets import chunks_since, deliver_all

BLANK = blank_screen(4, 12)


def frame_of(serial, base, number, echo, old, new):
    return ("frame", serial, base, number, echo, tuple(difference(old, new)))


def crowd(session, many):
    """Fill the network of a session up to so many packets, with probes that need not arrive."""
    while session.packets_sent() < many:
        session.probe("left")


def behind_keys(many, rules=EDITOR):
    """A session in which so many keys were done, and no frame has arrived."""
    session = joined(rules, window=32, columns=40)
    for _ in range(many):
        session.press(120)
        session.deliver(places_of(session, "data")[-1])
        session.deliver(places_of(session, "ack")[-1])
    return session


class TestFrames(unittest.TestCase):
    """Point 73."""

    def test_when_an_association_begins_at_the_right_end(self):
        for side in ("left", "right"):
            session = joined(EDITOR)
            session.press(97)
            deliver_all(session, 4)
            session.restart("left")
            session.restart("right")
            start = session.packets_sent()
            open_from(session, side)
            expected = [("frame", 1, 0, 1, 0, tuple(difference(BLANK, look(4, 12, "a"))))]
            # Behind the acknowledgement of the echo, and not when the left end begins.
            kinds = ["init", "init_ack", "echo", "echo_ack", "frame"]
            self.assertEqual(kinds_since(session, start), kinds)
            self.assertEqual(chunks_since(session, start + 4), expected)
            self.assertEqual(session.packet(start + 4).as_row()[:5], ("right", 2, 2, 2, 1))

    def test_none_when_the_desk_is_blank(self):
        for side in ("left", "right"):
            self.assertEqual(joined(side=side).packets_sent(), 4)

    def test_when_a_key_is_done(self):
        session = joined()
        session.press(97)
        session.deliver(4)
        self.assertEqual(chunks_since(session, 5), [("ack", 1, ()), frame_of(1, 0, 1, 1, BLANK, look(4, 12, "a"))])

    def test_one_frame_for_several_keys(self):
        session = joined()
        for key in text("abc"):
            session.press(key)
        self.assertEqual([session.deliver(place) for place in (6, 5, 4)], ["new"] * 3)
        expected = [("ack", 0, (3,)), ("ack", 0, (2, 3)), ("ack", 3, ()), frame_of(1, 0, 1, 3, BLANK, look(4, 12, "abc"))]
        self.assertEqual(chunks_since(session, 7), expected)

    def test_a_key_without_an_effect(self):
        # The echo is another one, so the state is new; its difference is empty.
        session = joined([])
        session.press(97)
        session.deliver(4)
        self.assertEqual(chunks_since(session, 5), [("ack", 1, ()), ("frame", 1, 0, 1, 1, ())])

    def test_none_when_no_key_is_done(self):
        session = joined()
        session.press(97)
        session.press(98)
        session.deliver(5)
        self.assertEqual(kinds_since(session, 6), ["ack"])
        session.deliver(4)
        self.assertEqual(kinds_since(session, 7), ["ack", "frame"])
        session.deliver(4)
        self.assertEqual(kinds_since(session, 9), ["ack"])

    def test_the_base_is_the_acknowledged_state(self):
        session = joined()
        for key in text("ab"):
            session.press(key)
        session.deliver(4)
        session.deliver(5)
        one, two = look(4, 12, "a"), look(4, 12, "ab")
        frames = places_of(session, "frame")
        self.assertEqual([session.packet(place).chunk for place in frames],
                         [frame_of(1, 0, 1, 1, BLANK, one), frame_of(2, 0, 2, 2, BLANK, two)])
        session.deliver(frames[0])
        session.deliver(session.packets_sent() - 1)
        session.press(99)
        session.deliver(session.packets_sent() - 1)
        self.assertEqual(session.packet(session.packets_sent() - 1).chunk, frame_of(3, 1, 3, 3, one, look(4, 12, "abc")))

    def test_nothing_is_new_when_a_frame_is_acknowledged(self):
        session = joined()
        session.press(97)
        deliver_all(session, 4)
        self.assertEqual(kinds_since(session, 4), ["data", "ack", "frame", "frame_ack"])

    def test_over_the_pair_of_the_turn(self):
        session = joined(seat=(1, 3), desk=(2, 4))
        for _ in range(3):
            session.time_out("right")
        session.press(97)
        session.deliver(4)
        self.assertEqual([session.packet(place).as_row()[3:5] for place in (5, 6)], [(2, 1), (4, 3)])

    def test_none_without_an_association(self):
        session = joined()
        session.press(97)
        session.abort("right")
        start = session.packets_sent()
        self.assertEqual(session.deliver(4), "unknown")
        self.assertEqual(session.time_out("right"), 0)
        self.assertEqual(kinds_since(session, start), ["gone"])
        session.connect("right", 1)
        self.assertEqual(session.time_out("right"), 1)
        self.assertEqual(kinds_since(session, start), ["gone", "init", "init"])

    def test_none_without_an_association_though_a_state_is_not_acknowledged(self):
        session = joined()
        session.press(97)
        session.deliver(4)
        session.restart("right")
        self.assertEqual(session.time_out("right"), 0)
        session.connect("right", 1)
        start = session.packets_sent()
        self.assertEqual(session.time_out("right"), 1)
        session.deliver(start)
        session.deliver(start + 1)
        self.assertEqual((session.status("right")[0], session.time_out("right")), ("echoing", 1))
        self.assertEqual(kinds_since(session, start), ["init", "init_ack", "echo", "echo"])

    def test_while_it_closes(self):
        session = joined()
        session.press(97)
        session.press(98)
        session.finish("right")
        deliver_all(session, 4)
        self.assertEqual(session.sure(), look(4, 12, "ab"))
        self.assertEqual(session.reports("right"), [(1, 1, "complete", ())])


class TestManyStates(unittest.TestCase):
    def test_40_states_that_are_not_acknowledged(self):
        session = behind_keys(45)
        frames = places_of(session, "frame")
        self.assertEqual([session.packet(place).chunk[3:5] for place in frames], [(n, n) for n in range(1, 41)])
        self.assertEqual(session.echo(), (45, 0))
        # One of them arrives: the states behind it are kept, but the desk can show again what it has now.
        session.deliver(frames[6])
        self.assertEqual(session.deliver(session.packets_sent() - 1), "frame_ack")
        (frame,) = places_of(session, "frame", frames[-1] + 1)
        self.assertEqual(session.packet(frame).chunk[:5], ("frame", 41, 7, 41, 45))
        session.deliver(frame)
        self.assertEqual((session.sure(), session.echo()), (session.desk_screen(), (45, 45)))

    def test_a_late_acknowledgement_makes_room_for_few(self):
        session = behind_keys(41)
        frames = places_of(session, "frame")
        self.assertEqual(len(frames), 40)
        session.deliver(frames[0])
        session.deliver(session.packets_sent() - 1)
        # The state 1 is acknowledged, so 40 are kept; the state 41 is told, and 41 are kept.
        self.assertEqual(session.packet(session.packets_sent() - 1).chunk[:5], ("frame", 41, 1, 41, 41))
        start = session.packets_sent()
        session.press(120)
        session.deliver(start)
        self.assertEqual(kinds_since(session, start), ["data", "ack"])

    def test_timing_out_with_too_many_states(self):
        session = behind_keys(45)
        # The newest state was sent, and is sent again: it has the echo 40.
        self.assertEqual(session.time_out("right"), 1)
        self.assertEqual(session.packet(session.packets_sent() - 1).chunk[:5], ("frame", 41, 0, 40, 40))
        session.deliver(session.packets_sent() - 1)
        self.assertEqual(session.echo(), (45, 40))
        session.deliver(session.packets_sent() - 1)
        session.deliver(session.packets_sent() - 1)
        self.assertEqual((session.echo(), session.sure()), ((45, 45), session.desk_screen()))

    def test_exactly_40_keys(self):
        session = behind_keys(40)
        self.assertEqual(len(places_of(session, "frame")), 40)
        session.deliver(places_of(session, "frame")[-1])
        start = session.packets_sent()
        session.deliver(start - 1)
        self.assertEqual(session.packets_sent(), start)


class TestRoom(unittest.TestCase):
    def test_no_room_for_a_frame(self):
        session = joined()
        session.press(97)
        crowd(session, 3000)
        self.assertEqual(session.deliver(4), "new")
        # The acknowledgement was the last packet; the key is done all the same.
        self.assertEqual(kinds_since(session, 3000), ["ack"])
        self.assertEqual((session.done(), session.echo()), ([(1, 1, 97)], (1, 0)))
        self.assertEqual(session.desk_screen(), look(4, 12, "a"))

    def test_room_for_a_frame(self):
        session = joined()
        session.press(97)
        crowd(session, 2999)
        session.deliver(4)
        self.assertEqual(kinds_since(session, 2999), ["ack", "frame"])

    def test_a_frame_is_answered_without_room(self):
        session = joined()
        session.press(97)
        session.deliver(4)
        crowd(session, 3000)
        session.deliver(6)
        self.assertEqual(kinds_since(session, 3000), ["frame_ack"])

    def test_timing_out(self):
        session = joined()
        session.press(97)
        session.deliver(4)
        crowd(session, 3000)
        self.assertEqual(session.time_out("right"), 1)
        self.assertEqual(kinds_since(session, 3000), ["frame"])
        session = joined()
        session.press(97)
        session.deliver(4)
        session.set_addresses("right", (2,))
        crowd(session, 3000)
        # What is repeated takes the last place.
        self.assertEqual(session.time_out("right"), 1)
        self.assertEqual(kinds_since(session, 3000), ["addresses"])

    def test_the_beginning_of_an_association(self):
        session = joined()
        session.press(97)
        session.deliver(4)
        session.restart("left")
        start = session.packets_sent()
        session.connect("left", 2)
        session.deliver(start)
        session.deliver(start + 1)
        while session.packets_sent() < 3000:
            session.time_out("left")
        self.assertEqual(session.deliver(start + 2), "established")
        self.assertEqual(kinds_since(session, 3000), ["echo_ack"])
        self.assertEqual((session.echo(), session.desk_screen()), ((0, 0), look(4, 12, "a")))


class TestTimingOut(unittest.TestCase):
    def test_the_newest_state_is_not_acknowledged(self):
        session = joined()
        session.press(97)
        session.deliver(4)
        for serial in (2, 3, 4):
            self.assertEqual(session.time_out("right"), 1)
            chunk = frame_of(serial, 0, 1, 1, BLANK, look(4, 12, "a"))
            self.assertEqual(session.packet(session.packets_sent() - 1).chunk, chunk)

    def test_the_newest_state_is_acknowledged(self):
        session = joined()
        session.press(97)
        deliver_all(session, 4)
        before = session.packets_sent()
        self.assertEqual(session.time_out("right"), 0)
        self.assertEqual(session.packets_sent(), before)

    def test_nothing_was_shown(self):
        self.assertEqual(joined().time_out("right"), 0)

    def test_behind_the_packets_that_it_repeats(self):
        session = joined()
        session.press(97)
        session.deliver(4)
        session.set_addresses("right", (2, 4))
        start = session.packets_sent()
        self.assertEqual(session.time_out("right"), 2)
        self.assertEqual(kinds_since(session, start), ["addresses", "frame"])
        self.assertEqual([session.packet(place).origin for place in (start, start + 1)], [4, 4])

    def test_a_state_that_could_not_be_told(self):
        # With too many states the newest one is sent again; the screen of now comes when one is acknowledged.
        session = behind_keys(41)
        session.deliver(places_of(session, "frame")[3])
        start = session.packets_sent()
        self.assertEqual(session.time_out("right"), 1)
        self.assertEqual(session.packet(start).chunk[:5], ("frame", 41, 0, 40, 40))
        session.deliver(start - 1)
        self.assertEqual(session.packet(start + 1).chunk[:5], ("frame", 42, 4, 41, 41))

    def test_the_left_end_does_not_show(self):
        session = joined()
        session.press(97)
        session.deliver(4)
        start = session.packets_sent()
        self.assertEqual(session.time_out("left"), 1)
        self.assertEqual(kinds_since(session, start), ["data"])

    def test_other_calls_do_not_show(self):
        session = joined()
        session.press(97)
        session.deliver(4)
        start = session.packets_sent()
        session.probe("right")
        session.set_addresses("right", (2, 4))
        session.press(98)
        session.deliver(start)
        session.deliver(5)
        self.assertEqual(kinds_since(session, start), ["probe", "addresses", "data", "probe_ack"])

    def test_phases(self):
        session = made()
        for phase, many in (("closed", 0), ("opening", 1)):
            self.assertEqual((session.status("right")[0], session.time_out("right")), (phase, many))
            if phase == "closed":
                session.connect("right", 1)
        deliver_all(session, 1)
        self.assertEqual((session.status("right")[0], session.time_out("right")), ("established", 0))


class TestArrivals(unittest.TestCase):
    """Point 74."""

    def test_a_frame_is_answered(self):
        session = joined(seat=(1, 3), desk=(2, 4))
        for _ in range(3):
            session.time_out("right")
        session.press(97)
        session.deliver(4)
        self.assertEqual(session.deliver(6), "frame")
        self.assertEqual(session.packet(7).as_row(), ("left", 1, 1, 3, 4, ("frame_ack", 1)))
        self.assertEqual(session.looks(), [(1, 1, 1, look(4, 12, "a"))])

    def test_frames_twice_and_late(self):
        session = joined()
        for key in text("abc"):
            session.press(key)
        for place in (4, 5, 6):
            session.deliver(place)
        one, two, three = places_of(session, "frame")
        session.deliver(two)
        self.assertEqual(session.sure(), look(4, 12, "ab"))
        before = shown_by(session)
        start = session.packets_sent()
        for place in (two, one, one):
            self.assertEqual(session.deliver(place), "frame")
        # Answered with the number of the seat, though none was accepted.
        self.assertEqual(chunks_since(session, start), [("frame_ack", 2)] * 3)
        self.assertEqual(shown_by(session), before)
        session.deliver(three)
        self.assertEqual(session.sure(), look(4, 12, "abc"))
        self.assertEqual([row[2] for row in session.looks()], [2, 3])

    def test_frames_of_an_older_association(self):
        session = joined(EDITOR)
        session.press(97)
        session.deliver(4)
        session.restart("left")
        open_from(session, "left")
        before = shown_by(session)
        start = session.packets_sent()
        self.assertEqual(session.deliver(6), "unknown")
        self.assertEqual(chunks_since(session, start), [("gone",)])
        self.assertEqual((shown_by(session), session.looks()), (before, []))

    def test_frames_before_the_left_end_has_the_association(self):
        session = joined(EDITOR)
        session.press(97)
        deliver_all(session, 4)
        session.restart("left")
        start = session.packets_sent()
        session.connect("left", 2)
        for place in range(start, start + 3):
            session.deliver(place)
        self.assertEqual(kinds_since(session, start + 3), ["echo_ack", "frame"])
        self.assertEqual(session.deliver(start + 4), "ignored")
        self.assertEqual(session.sure(), look(4, 12, "a"))
        session.deliver(start + 3)
        self.assertEqual(session.deliver(start + 4), "frame")
        self.assertEqual(session.looks()[-1], (2, 2, 0, look(4, 12, "a")))

    def test_frames_at_an_address_that_is_none(self):
        session = joined()
        session.press(97)
        session.deliver(4)
        session.set_addresses("left", (9,))
        start = session.packets_sent()
        self.assertEqual(session.deliver(6), "no such address")
        self.assertEqual((session.packets_sent(), session.sure()), (start, BLANK))

    def test_the_wrong_end(self):
        # No session sends them: frames of the left end, and acknowledgements of frames of the right end.
        session = joined()
        session.press(97)
        session.deliver(4)
        before = shown_by(session)
        session.network.send_frame("left", (1, 0, 1, 1), text("x"))
        start = session.packets_sent()
        self.assertEqual(session.deliver(start - 1), "frame")
        session.network.answer_frame(start - 1, 1)
        self.assertEqual(session.deliver(start), "frame_ack")
        self.assertEqual((session.packets_sent(), shown_by(session)), (start + 1, before))
        self.assertEqual(session.time_out("right"), 1)

    def test_acknowledgements_late_and_twice(self):
        session = joined()
        for key in text("ab"):
            session.press(key)
        deliver_all(session, 4)
        one, two = places_of(session, "frame_ack")
        session.press(99)
        session.deliver(session.packets_sent() - 1)
        start = session.packets_sent()
        for place in (one, two, one):
            before = everything(session)
            self.assertEqual(session.deliver(place), "frame_ack")
            self.assertEqual(everything(session), before)
        # The base is still the state 2.
        self.assertEqual(session.packet(start - 1).chunk[:5], ("frame", 3, 2, 3, 3))
        session.time_out("right")
        self.assertEqual(session.packet(start).chunk[:5], ("frame", 4, 2, 3, 3))

    def test_acknowledgements_of_an_older_association(self):
        session = joined(EDITOR)
        for key in text("ab"):
            session.press(key)
        deliver_all(session, 4)
        (late, _) = places_of(session, "frame_ack")
        session.restart("left")
        open_from(session, "left")
        start = session.packets_sent()
        self.assertEqual(session.deliver(late), "unknown")
        self.assertEqual(chunks_since(session, start), [("gone",)])
        # The state 1 of this association is still not acknowledged.
        self.assertEqual(session.time_out("right"), 1)
        self.assertEqual(session.packet(session.packets_sent() - 1).chunk[:5], ("frame", 2, 0, 1, 0))


class TestStates(unittest.TestCase):
    def test_with_a_teller_and_a_hearer(self):
        # The frames are the datagrams of a teller that is told the screen behind each key.
        session = joined(EDITOR, columns=5, rows=2)
        teller, hearer = Teller(blank_screen(2, 5)), Hearer(blank_screen(2, 5))
        keys = text("abc") + ["enter"] + text("defgh") + ["back", "left", 196]
        for echo, key in enumerate(keys, 1):
            session.press(key)
            start = session.packets_sent()
            session.deliver(start - 1)
            teller.tell(session.desk_screen(), echo)
            serial, base, number, told, row = teller.datagram()
            self.assertEqual(session.packet(start + 1).chunk, ("frame", serial, base, number, told, tuple(row)))
            session.deliver(start)
            if echo % 3 != 0:
                session.deliver(start + 1)
                hearer.hear((serial, base, number, told, row))
                self.assertEqual(session.sure(), hearer.screen())
                if echo % 3 == 2:
                    session.deliver(session.packets_sent() - 1)
                    teller.acknowledge(hearer.numbers()[0])

    def test_echo_programs(self):
        session = joined(ECHO, rows=1, columns=2)
        for key in text("abcde") + [255]:
            session.press(key)
            deliver_all(session, session.packets_sent() - 1)
        self.assertEqual(session.sure(), look(1, 2, "abcde\xff"))
