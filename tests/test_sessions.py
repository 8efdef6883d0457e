import unittest

from fardesk.desks import run_keys
from fardesk.packets import other_side
from fardesk.programs import Program
from fardesk.screens import blank_screen
from tests.afar import ECHO, EDITOR, everything, joined, made, open_from, places_of, recorded, shown_by
from tests.helpers import look, string_of, text
from tests.nets import SIDES, chunks_since, deliver_all

BLANK = blank_screen(4, 12)


def type_keys(session, keys):
    return [session.press(key) for key in keys]


def restarted(session, side):
    """An end restarts, and begins an association."""
    session.restart(side)
    open_from(session, side)


class TestNew(unittest.TestCase):
    def test_it_is_blank(self):
        session = made()
        self.assertEqual(shown_by(session), (BLANK, BLANK, BLANK, (0, 0, 0), (0, 0)))
        self.assertEqual(recorded(session), ([], [], []))
        self.assertEqual(session.status("left"), ("closed", None, None, (1,), 0, 0, 0))
        self.assertEqual(session.status("right"), ("closed", None, None, (2,), 0, 0, 0))
        self.assertEqual(session.packets_sent(), 0)

    def test_sizes_and_addresses(self):
        for rows, columns in ((1, 2), (1, 40), (12, 2), (12, 40)):
            for seat, desk in (([5], (6, 7)), ((1, 2, 3, 4, 5, 6), [9])):
                session = made(rows=rows, columns=columns, seat=seat, desk=desk, window=1)
                for screen in (session.desk_screen(), session.sure(), session.shown()):
                    self.assertEqual(screen, blank_screen(rows, columns))
                self.assertEqual([session.status(side)[3] for side in SIDES], [tuple(seat), tuple(desk)])

    def test_the_window(self):
        session = joined(window=3)
        type_keys(session, [97] * 5)
        self.assertEqual(session.association("left")[3:5], (5, 3))
        session = joined()
        type_keys(session, [97] * 9)
        self.assertEqual(session.association("left")[3:5], (9, 8))

    def test_two_sessions_know_nothing_of_each_other(self):
        program = Program(EDITOR)
        seat, desk = [1, 3], [2]
        one, two = [type(made())(program, seat=seat, desk=desk) for _ in range(2)]
        before = everything(two)
        open_from(one, "left")
        one.press(97)
        deliver_all(one, 4)
        one.set_addresses("left", (9,))
        seat.append(5)
        desk[0] = 7
        self.assertEqual(everything(two), before)
        self.assertEqual(one.status("right")[3], (2,))

    def test_keywords(self):
        with self.assertRaises(TypeError):
            type(made())(Program(ECHO), 4)


class TestNetwork(unittest.TestCase):
    """What is said of the ends and the network holds within a session."""

    def test_an_association_from_either_end(self):
        for side in SIDES:
            session = made(seat=(1, 3), desk=(2, 4))
            self.assertEqual(session.connect(side, {"left": 4, "right": 3}[side]), 1)
            self.assertEqual(deliver_all(session, 0), ["answered", "echoed", "established", "established"])
            self.assertEqual([session.association(end)[:3] for end in SIDES], [(1, 1, (2, 4)), (1, 1, (1, 3))])
            self.assertEqual(session.packets_sent(), 4)

    def test_finishing(self):
        for side in SIDES:
            session = joined(side=side)
            session.press(97)
            self.assertEqual(session.finish(side), int(side == "right"))
            deliver_all(session, 4)
            for end in SIDES:
                fates = ("delivered",) * (end == "left")
                self.assertEqual(session.reports(end), [(1, 1, "complete", fates)])
            self.assertEqual((session.sure(), session.shown()), (look(4, 12, "a"),) * 2)
            self.assertEqual(session.done(), [(1, 1, 97)])

    def test_aborting_and_probing(self):
        session = joined(seat=(1, 3))
        self.assertEqual(session.probe("right"), 2)
        self.assertEqual(session.deliver(5), "answered")
        self.assertEqual(session.deliver(6), "path")
        self.assertEqual(session.status("right")[6], 1)
        self.assertEqual(session.abort("left"), 1)
        self.assertEqual(session.deliver(7), "ended")
        self.assertEqual(session.reports("right"), [(1, 1, "aborted by the other end", ())])

    def test_addresses(self):
        session = joined()
        self.assertEqual(session.set_addresses("right", [7, 2]), 1)
        self.assertEqual(session.deliver(4), "answered")
        self.assertEqual(session.association("left")[2], (7, 2))
        session.press(97)
        self.assertEqual(session.packet(6).as_row(), ("left", 1, 1, 1, 7, ("data", 1, 0, 0, (0, 97))))
        session.set_addresses("right", [5])
        self.assertEqual(session.deliver(6), "no such address")
        self.assertEqual(session.done(), [])

    def test_restarting(self):
        for side in SIDES:
            session = joined()
            self.assertIsNone(session.restart(side))
            self.assertEqual(session.status(side)[:3], ("closed", None, None))


class TestBeginnings(unittest.TestCase):
    """Point 71."""

    def test_a_restart_by_itself_changes_no_screen(self):
        for side in SIDES:
            session = joined(EDITOR)
            type_keys(session, [97, 98])
            deliver_all(session, 4)
            type_keys(session, [99])
            before = shown_by(session), recorded(session)
            session.restart(side)
            self.assertEqual((shown_by(session), recorded(session)), before)

    def test_the_end_of_an_association_changes_no_screen(self):
        for side in SIDES:
            for act in ("abort", "finish"):
                session = joined(EDITOR)
                type_keys(session, [97, 98])
                deliver_all(session, 4)
                before = shown_by(session), recorded(session)
                start = session.packets_sent()
                getattr(session, act)(side)
                deliver_all(session, start)
                self.assertIsNone(session.association("left"))
                self.assertIsNone(session.association("right"))
                self.assertEqual((shown_by(session), recorded(session)), before)

    def test_the_desk_stays_and_the_seat_begins_anew(self):
        for first in SIDES:
            for second in SIDES:
                session = joined(EDITOR, first)
                type_keys(session, text("ab"))
                deliver_all(session, 4)
                session.press(99)
                session.restart("left")
                session.restart("right")
                start = session.packets_sent()
                open_from(session, second)
                self.assertEqual(session.desk_screen(), look(4, 12, "ab"))
                self.assertEqual((session.sure(), session.shown()), (BLANK, BLANK))
                self.assertEqual((session.guesses(), session.echo()), ((2, 0, 0), (0, 0)))
                # The desk has shown its screen in a frame, from the blank state 0.
                (frame,) = places_of(session, "frame", start)
                self.assertEqual(session.packet(frame).chunk[:5], ("frame", 1, 0, 1, 0))
                self.assertEqual(session.deliver(frame), "frame")
                self.assertEqual((session.sure(), session.shown()), (look(4, 12, "ab"),) * 2)
                self.assertEqual(session.looks()[-1], (2, 2, 0, look(4, 12, "ab")))

    def test_the_ends_begin_one_by_one(self):
        for side in SIDES:
            session = joined(EDITOR)
            type_keys(session, text("ab"))
            deliver_all(session, 4)
            session.restart("left")
            session.restart("right")
            start = session.packets_sent()
            session.connect(side, {"left": 2, "right": 1}[side])
            session.deliver(start)
            session.deliver(start + 1)
            self.assertEqual((session.sure(), session.echo()), (look(4, 12, "ab"), (2, 2)))
            session.deliver(start + 2)
            # The other end has begun: it alone begins anew.
            if side == "left":
                self.assertEqual((session.sure(), session.echo()), (look(4, 12, "ab"), (0, 2)))
            else:
                self.assertEqual((session.sure(), session.echo()), (BLANK, (2, 0)))
            session.deliver(start + 3)
            self.assertEqual((session.sure(), session.echo()), (BLANK, (0, 0)))

    def test_a_replaced_association(self):
        session = joined(EDITOR)
        type_keys(session, text("ab"))
        deliver_all(session, 4)
        restarted(session, "left")
        self.assertEqual(session.reports("right"), [(1, 1, "replaced", ())])
        self.assertEqual((session.desk_screen(), session.sure()), (look(4, 12, "ab"), BLANK))
        deliver_all(session, session.packets_sent() - 1)
        self.assertEqual(session.sure(), look(4, 12, "ab"))

    def test_the_program_keeps_its_state(self):
        rules = [(state, None, state + 1, (48 + state,)) for state in range(9)]
        session = joined(rules)
        for _ in range(3):
            type_keys(session, [97, 98])
            deliver_all(session, places_of(session, "data")[-2])
            restarted(session, "left")
        self.assertEqual(session.desk_screen(), look(4, 12, "012345"))

    def test_a_packet_that_begins_nothing(self):
        # An echo that comes again is answered, and nothing begins.
        session = joined(EDITOR)
        type_keys(session, text("ab"))
        deliver_all(session, 4)
        before = shown_by(session)
        self.assertEqual(session.deliver(2), "answered")
        self.assertEqual(session.deliver(3), "ignored")
        self.assertEqual(shown_by(session), before)


class TestKeys(unittest.TestCase):
    """Point 72."""

    def test_typing(self):
        session = joined()
        start = session.packets_sent()
        self.assertEqual(type_keys(session, [97, "up", 255]), [1, 2, 3])
        data = [("data", 1, 0, 0, (0, 97)), ("data", 2, 0, 1, (1, 4)), ("data", 3, 0, 2, (0, 255))]
        self.assertEqual(chunks_since(session, start), data)
        self.assertEqual(session.typed(), [(1, 1, 97), (1, 1, "up"), (1, 1, 255)])
        self.assertEqual((session.done(), session.looks()), ([], []))
        self.assertEqual(session.shown(), look(4, 12, "\x1b[4ma"))
        self.assertEqual((session.desk_screen(), session.sure(), session.guesses()), (BLANK, BLANK, (0, 0, 1)))

    def test_every_key(self):
        names = ["enter", "tab", "back", "escape", "up", "down", "right", "left", "home", "end", "insert", "delete",
                 "page up", "page down"]
        keys = list(range(32, 127)) + names + list(range(160, 256))
        session = joined(ECHO, window=32)
        for key in keys:
            session.press(key)
            session.deliver(places_of(session, "data")[-1])
            session.deliver(places_of(session, "ack")[-1])
        self.assertEqual(session.done(), [(1, 1, key) for key in keys])
        self.assertEqual(session.done(), session.typed())
        self.assertEqual(session.desk_screen(), run_keys(Program(ECHO), keys, rows=4, columns=12))

    def test_keys_in_any_order(self):
        session = joined()
        type_keys(session, text("abcd"))
        start = session.packets_sent()
        self.assertEqual([session.deliver(place) for place in (7, 5, 5)], ["new", "new", "known"])
        self.assertEqual((session.done(), session.echo(), session.desk_screen()), ([], (0, 0), BLANK))
        self.assertEqual([chunk[0] for chunk in chunks_since(session, start)], ["ack"] * 3)
        self.assertEqual(session.deliver(4), "new")
        self.assertEqual([row[2] for row in session.done()], text("ab"))
        self.assertEqual((session.echo(), session.desk_screen()), ((2, 0), look(4, 12, "ab")))
        # c brings d with it: both are done at once.
        self.assertEqual(session.deliver(6), "new")
        self.assertEqual([row[2] for row in session.done()], text("abcd"))
        self.assertEqual((session.echo(), session.desk_screen()), ((4, 0), look(4, 12, "abcd")))

    def test_keys_are_done_once(self):
        session = joined()
        session.press(97)
        self.assertEqual([session.deliver(4) for _ in range(3)], ["new", "known", "known"])
        session.time_out("left")
        self.assertEqual(session.deliver(session.packets_sent() - 1), "known")
        self.assertEqual((session.done(), session.desk_screen()), ([(1, 1, 97)], look(4, 12, "a")))

    def test_before_the_other_end_has_the_association(self):
        # The right end has asked; the left end has the association first.
        session = made()
        session.connect("right", 1)
        for place in range(3):
            session.deliver(place)
        self.assertEqual(session.press(97), 1)
        self.assertEqual(session.deliver(4), "ignored")
        self.assertEqual((session.done(), session.guesses()), ([], (0, 0, 1)))
        session.deliver(3)
        self.assertEqual(session.deliver(4), "new")
        self.assertEqual(session.done(), [(1, 1, 97)])

    def test_the_echo(self):
        session = joined()
        type_keys(session, text("abc"))
        for place in (4, 5):
            session.deliver(place)
        self.assertEqual(session.echo(), (2, 0))
        frames = places_of(session, "frame")
        session.deliver(frames[0])
        self.assertEqual(session.echo(), (2, 1))
        session.deliver(frames[1])
        self.assertEqual(session.echo(), (2, 2))
        # Behind the end of the association it stays.
        session.abort("right")
        self.assertEqual(session.echo(), (2, 2))
        session.restart("left")
        self.assertEqual(session.echo(), (2, 2))
        self.assertEqual(session.deliver(6), "unknown")
        self.assertEqual(session.echo(), (2, 2))
        open_from(session, "left")
        self.assertEqual(session.echo(), (0, 0))
        session.press(100)
        session.deliver(session.packets_sent() - 1)
        self.assertEqual((session.echo(), session.desk_screen()), ((1, 0), look(4, 12, "abd")))

    def test_keys_of_an_association_that_is_over(self):
        session = joined()
        type_keys(session, text("ab"))
        session.restart("right")
        self.assertEqual(session.deliver(4), "unknown")
        self.assertEqual(session.deliver(6), "ended")
        open_from(session, "left")
        self.assertEqual(session.deliver(5), "unknown")
        self.assertEqual((session.done(), session.desk_screen()), ([], BLANK))
        session.press(99)
        session.deliver(places_of(session, "data")[-1])
        self.assertEqual(session.typed(), [(1, 1, 97), (1, 1, 98), (2, 2, 99)])
        self.assertEqual(session.done(), [(2, 2, 99)])


class TestRecords(unittest.TestCase):
    def unlike(self):
        """A session whose left end has the tag 1 and whose right end has the tag 3."""
        session = made(EDITOR)
        session.connect("left", 2)
        for _ in range(3):
            session.deliver(0)
        session.deliver(3)
        deliver_all(session, 4)
        self.assertEqual([session.association(side)[:2] for side in SIDES], [(1, 3), (3, 1)])
        return session

    def test_the_tags_of_the_left_end(self):
        session = self.unlike()
        session.press(97)
        start = session.packets_sent() - 1
        deliver_all(session, start)
        self.assertEqual(session.typed(), [(1, 3, 97)])
        self.assertEqual(session.done(), [(1, 3, 97)])
        self.assertEqual(session.looks(), [(1, 3, 1, look(4, 12, "a"))])

    def test_several_associations(self):
        session = self.unlike()
        tags = [(1, 3)]
        for number, side in enumerate(("left", "right", "left"), 97):
            session.press(number)
            deliver_all(session, session.packets_sent() - 1)
            session.restart("left")
            session.restart("right")
            open_from(session, side)
            tags.append(session.association("left")[:2])
            deliver_all(session, session.packets_sent() - 1)
        self.assertEqual(tags, [(1, 3), (2, 4), (3, 5), (4, 6)])
        self.assertEqual(session.typed(), [(1, 3, 97), (2, 4, 98), (3, 5, 99)])
        self.assertEqual(session.done(), session.typed())
        screens = [look(4, 12, string) for string in ("a", "a", "ab", "ab", "abc", "abc")]
        expected = [tag + (echo,) for tag in tags for echo in (0, 1)][1:-1] + [tags[-1] + (0,)]
        self.assertEqual(session.looks(), [row + (screen,) for row, screen in zip(expected, screens)])

    def test_looks_come_only_from_accepted_datagrams(self):
        session = joined()
        type_keys(session, text("abc"))
        deliver_all(session, 4)
        many = len(session.looks())
        self.assertEqual([row[2] for row in session.looks()], [1, 2, 3])
        for place in places_of(session, "frame"):
            self.assertEqual(session.deliver(place), "frame")
        self.assertEqual(len(session.looks()), many)

    def test_lists_that_are_returned(self):
        session = joined()
        type_keys(session, text("ab"))
        deliver_all(session, 4)
        session.abort("left")
        before = everything(session)
        for rows in (session.typed(), session.done(), session.looks(), session.reports("left")):
            rows.append(1)
            rows[0] = None
        self.assertEqual(everything(session), before)

    def test_screens_that_were_told_stay(self):
        session = joined()
        session.press(97)
        deliver_all(session, 4)
        told = [session.desk_screen(), session.sure(), session.shown()]
        type_keys(session, text("bc"))
        deliver_all(session, 8)
        self.assertEqual(told, [look(4, 12, "a")] * 3)


class TestForetelling(unittest.TestCase):
    def test_point_41_within_a_session(self):
        # The desk writes narrow characters, and 8, 32, 8 for back: what is shown is what will be.
        session = joined(EDITOR)
        keys = text("hello") + ["back", "back"] + text("p!") + ["back"]
        for many, key in enumerate(keys, 1):
            session.press(key)
            self.assertEqual(plain(session.shown()), run_keys(Program(EDITOR), keys[:many], rows=4, columns=12))
        place = 4
        while place < session.packets_sent():
            session.deliver(place)
            self.assertEqual(plain(session.shown()), run_keys(Program(EDITOR), keys, rows=4, columns=12))
            place += 1
        self.assertEqual(session.guesses(), (len(keys), 0, 0))

    def test_a_program_that_does_something_else(self):
        session = joined(((0, None, 0, (42,)),))
        type_keys(session, text("ab"))
        self.assertEqual(string_of(character for character, _ in session.shown()[0][0][:3]), "ab ")
        deliver_all(session, 4)
        # The first frame has one key: it is wrong, and the other one is dropped.
        self.assertEqual(session.guesses(), (0, 1, 0))
        self.assertEqual(session.shown(), look(4, 12, "**"))


def plain(screen):
    """A screen without styles."""
    lines, cursor, visible, title = screen
    return tuple(tuple((character, ()) for character, _ in line) for line in lines), cursor, visible, title


class TestParts(unittest.TestCase):
    """The terminal, the differences and the states within a session."""

    def test_a_program_that_does_much_to_its_terminal(self):
        rules = (
            (0, 97, 0, (27, 91, 56, 59, 51, 59, 53, 116)), (0, 98, 0, (27, 91, 63, 50, 53, 108)),
            (0, 99, 0, tuple(text("\x1b]2;title\x07"))), (0, 100, 0, tuple(text("\x1b[?1049h"))),
            (0, 101, 0, tuple(text("\x1b[1;31m"))), (0, 102, 0, tuple(text("\x1b[2;3r\x1b[?6h"))),
            (0, 103, 0, tuple(text("\x1b[6n"))), (0, 104, 0, tuple(text("\x1bc"))), (0, 27, 0, ()), (0, 105, 0, (27, 91)),
            (0, None, 0, (256,)),
        )
        session = joined(rules)
        for key in text("xyzaexbxcxdxxxxxxxxxxxxxxxxgfxgi5Bxhx"):
            session.press(key)
            deliver_all(session, places_of(session, "data")[-1])
            self.assertEqual(session.sure(), session.desk_screen())
        self.assertEqual([row[2] for row in session.looks()], list(range(1, 38)))

    def test_frames_get_lost(self):
        session = joined(EDITOR)
        keys = text("one two") + ["enter"] + text("three") + ["back", "left", "up"]
        for number, key in enumerate(keys):
            session.press(key)
            session.deliver(places_of(session, "data")[-1])
            session.deliver(places_of(session, "ack")[-1])
            if number % 3 == 0:
                session.deliver(places_of(session, "frame")[-1])
                self.assertEqual(session.sure(), session.desk_screen())
        self.assertEqual(session.desk_screen(), run_keys(Program(EDITOR), keys, rows=4, columns=12))

    def test_any_side(self):
        for side in SIDES:
            session = joined(EDITOR, side)
            self.assertEqual(session.status(other_side(side))[0], "established")
            session.press(97)
            deliver_all(session, 4)
            self.assertEqual(session.sure(), look(4, 12, "a"))
