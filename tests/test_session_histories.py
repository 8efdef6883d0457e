"""Whole histories of a session, drawn by a fixed rule: packets are lost, late, doubled and out of order."""

import unittest

from fardesk.desks import Desk
from fardesk.homeward import bring_home, is_pair
from fardesk.packets import packet_octets
from fardesk.programs import Program
from fardesk.reading import read_packet
from fardesk.screens import blank_screen, is_screen
from fardesk.sessions import Session
from tests.afar import ECHO, EDITOR, everything
from tests.drawing import chances
from tests.helpers import text
from tests.nets import SIDES, deliver_all

KEYS = text("abcdefgh ijkl.") + [196, 255, "enter", "back", "back", "up", "left", "home", "page down"]
# Narrow characters and back only: an editor does with them what is foretold.
PLAIN_KEYS = text("abcdefgh ijkl.") + ["back", "back"]
ASKING = ((0, 97, 0, (27, 91, 54, 110)), (0, 98, 1, tuple(text("\x1b[1;33m\x1b]2;t\x07"))), (1, 99, 0, tuple(text("\x1b[2J\x1b[?25l"))),
          (0, 100, 2, tuple(text("\x1b[8;3;7t"))), (2, 101, 0, tuple(text("\x1b[8;5;20t\x1bM"))), (0, 102, 0, (27, 91, 53, 110)),
          (2, None, 2, (256,)), (1, None, 1, (256, 45)), (0, None, 0, (256,)))
OWN = {"left": ((1,), (1, 3), (3, 5, 1)), "right": ((2,), (2, 4), (6, 2))}


class Watched:
    """A session with what must be true of it: which keys the desk has done, and when its associations began."""

    def __init__(self, case, chance, rules, size):
        self.case = case
        self.chance = chance
        self.program = Program(rules)
        rows, columns = size
        self.session = Session(self.program, rows=rows, columns=columns, seat=chance.choice(OWN["left"]),
                               desk=chance.choice(OWN["right"]), window=chance.choice((1, 3, 8, 32)))
        self.blank = blank_screen(rows, columns)
        self.model = Desk(self.program, rows, columns)
        self.screens = [self.model.screen()]
        self.begun = {}
        self.looked = 0

    def deliver(self, place):
        packet = self.session.packet(place)
        result = self.session.deliver(place)
        if result == "established" and packet.sender == "left":
            tag, peer = self.session.association("right")[:2]
            self.begun[(peer, tag)] = len(self.session.done())
        return result

    def happen(self, keys):
        """Let one thing happen that is not refused."""
        session, chance = self.session, self.chance
        side = chance.choice(SIDES)
        many = session.packets_sent()
        kind = chance.random()
        row = session.association(side)
        if many and kind < 0.6:
            # Mostly one of the newest packets, sometimes any one.
            first = max(0, many - 10) if chance.random() < 0.9 else 0
            return self.deliver(chance.randrange(first, many))
        if kind < 0.68:
            return session.time_out(side)
        if kind < 0.7:
            return session.set_addresses(side, chance.choice(OWN[side]))
        if kind < 0.7015:
            return session.restart(side)
        if session.status(side)[0] == "closed":
            return session.connect(side, chance.choice(session.status({"left": "right", "right": "left"}[side])[3]))
        if row is None:
            return session.abort(side) if chance.random() < 0.05 else session.time_out(side)
        if kind < 0.72:
            return session.probe(side)
        if kind < 0.721:
            return session.abort(side)
        joined = session.association("left")
        if joined is None or joined[-1] != "no":
            return None
        if kind < 0.723:
            return session.finish("left")
        return session.press(chance.choice(keys))

    def check(self):
        """What holds behind each happening."""
        case, session = self.case, self.session
        done, typed = session.done(), session.typed()
        for _, _, key in done[len(self.screens) - 1:]:
            self.model.press(key)
            self.screens.append(self.model.screen())
        case.assertEqual(session.desk_screen(), self.screens[-1])
        for tags in {row[:2] for row in done}:
            part = [row for row in done if row[:2] == tags]
            case.assertEqual(part, [row for row in typed if row[:2] == tags][:len(part)])
        for tag, peer, echo, screen in session.looks()[self.looked:]:
            case.assertEqual(screen, self.screens[self.begun[(tag, peer)] + echo])
            case.assertTrue(is_screen(screen))
        self.looked = len(session.looks())
        self.check_ends()

    def check_ends(self):
        case, session = self.case, self.session
        desk, seat = session.echo()
        right, wrong, pending = session.guesses()
        case.assertLessEqual(right + wrong + pending, len(session.typed()))
        case.assertTrue(is_screen(session.shown()))
        left = session.association("left")
        if left is not None:
            case.assertLessEqual(seat, len([row for row in session.typed() if row[:2] == left[:2]]))
            looks = [row for row in session.looks() if row[:2] == left[:2]]
            case.assertEqual(session.sure(), looks[-1][3] if looks else self.blank)
            case.assertEqual(seat, looks[-1][2] if looks else 0)
            case.assertEqual([row[2] for row in looks], sorted(row[2] for row in looks))
        row = session.association("right")
        if row is not None:
            case.assertEqual(desk, len([done for done in session.done() if done[:2] == (row[1], row[0])]))
            if left is not None and left[:2] == (row[1], row[0]):
                case.assertLessEqual(seat, desk)

    def join_again(self):
        """Join the ends again, if need be, so that a pair works, and return a pair."""
        session = self.session
        for side in SIDES:
            session.set_addresses(side, OWN[side][1])
        here, there = 3, 4
        if not is_pair(session, here, there):
            for side in SIDES:
                session.restart(side)
            start = session.packets_sent()
            session.connect("left", 2)
            place = start
            while session.association("left") is None:
                self.deliver(place)
                place += 1
        return here, there

    def come_home(self):
        session = self.session
        here, there = self.join_again()
        self.check()
        row = session.association("left")
        arrived = bring_home(session, here, there)
        self.check()
        self.case.assertLessEqual(arrived, 4 * (row[3] - row[5] - len(row[6])) + 12)
        self.case.assertEqual(session.sure(), session.desk_screen())
        self.case.assertEqual(session.echo()[0], session.echo()[1])
        tags = row[:2]
        self.case.assertEqual([row for row in session.done() if row[:2] == tags],
                              [row for row in session.typed() if row[:2] == tags])


class TestHistories(unittest.TestCase):
    def history(self, number, rules, keys, many, size=(3, 9)):
        watched = Watched(self, chances(number), rules, size)
        results = []
        for _ in range(many):
            result = watched.happen(keys)
            if isinstance(result, str):
                results.append(result)
            watched.check()
        return watched, results

    def test_histories(self):
        seen, associations, looks, done = [], 0, 0, 0
        for number in range(45):
            rules = (EDITOR, ECHO, ASKING)[number % 3]
            watched, results = self.history(number, rules, KEYS, 700)
            seen.extend(results)
            associations += len(watched.begun)
            watched.come_home()
            looks += len(watched.session.looks())
            done += len(watched.session.done())
        # The rule of the test lets everything happen.
        for result in ("no such address", "ignored", "answered", "echoed", "established", "refused", "unknown", "new",
                       "known", "acknowledged", "path", "ended", "closing", "frame", "frame_ack"):
            self.assertIn(result, seen)
        self.assertGreater(associations, 60)
        self.assertGreater(looks, 500)
        self.assertGreater(done, 500)

    def test_home_again_and_again(self):
        for number in range(20):
            watched = Watched(self, chances(500 + number), (EDITOR, ECHO, ASKING)[number % 3], (3, 9))
            for _ in range(4):
                for _ in range(80):
                    watched.happen(KEYS)
                watched.check()
                watched.come_home()

    def test_many_keys_without_a_screen(self):
        # So many frames get lost that the teller has too many states.
        for number in range(6):
            watched = Watched(self, chances(700 + number), EDITOR, (3, 9))
            session = watched.session
            session.connect("left", session.status("right")[3][0])
            for place in range(4):
                watched.deliver(place)
            for _ in range(60):
                session.press(watched.chance.choice(KEYS))
                start = session.packets_sent() - 1
                while start < session.packets_sent():
                    if session.packet(start).chunk[0] in ("data", "ack"):
                        watched.deliver(start)
                    start += 1
                watched.check()
            self.assertEqual(session.echo(), (60, 0))
            watched.come_home()

    def test_plain_keys_are_foretold_right(self):
        # As long as there is one association, and its desk does what is foretold.
        for number in range(10):
            chance = chances(900 + number)
            session = Session(Program(EDITOR), rows=2, columns=40, window=8)
            session.connect("left", 2)
            deliver_all(session, 0)
            right = 0
            for _ in range(150):
                if chance.random() < 0.2:
                    session.press(chance.choice(PLAIN_KEYS))
                elif chance.random() < 0.1:
                    session.time_out(chance.choice(SIDES))
                else:
                    session.deliver(chance.randrange(max(0, session.packets_sent() - 6), session.packets_sent()))
                self.assertGreaterEqual(session.guesses()[0], right)
                right, wrong, _ = session.guesses()
                self.assertEqual(wrong, 0)
            bring_home(session, 1, 2)
            self.assertEqual(session.guesses()[1:], (0, 0))
            self.assertEqual(session.shown(), session.sure())

    def test_the_same_history_again(self):
        one, first = self.history(3, EDITOR, KEYS, 200)
        two, second = self.history(3, EDITOR, KEYS, 200)
        self.assertEqual(first, second)
        self.assertEqual(everything(one.session), everything(two.session))

    def test_each_packet_has_octets(self):
        watched, _ = self.history(4, ASKING, KEYS, 250)
        for place in range(watched.session.packets_sent()):
            packet = watched.session.packet(place)
            self.assertEqual(read_packet(packet_octets(packet)).as_row(), packet.as_row())
