"""The example of a session, letter by letter."""

import unittest

from fardesk.differences import difference
from fardesk.programs import Program
from fardesk.screens import blank_screen
from fardesk.sessions import Session
from tests.helpers import look

BLANK = blank_screen(4, 12)
A = look(4, 12, "a")


class TestExample(unittest.TestCase):
    def rows(self, session):
        return [session.packet(place).as_row() for place in range(session.packets_sent())]

    def test_it(self):
        session = Session(Program([(0, None, 0, (256,))]))
        self.assertEqual(session.connect("left", 2), 1)
        results = [session.deliver(place) for place in range(4)]
        self.assertEqual(results, ["answered", "echoed", "established", "established"])
        rows = [
            ("left", 1, 0, 1, 2, ("init", (1,))), ("right", 1, 1, 2, 1, ("init_ack", (2,), (1, 1, (1,)))),
            ("left", 1, 1, 1, 2, ("echo", (1, 1, (1,)))), ("right", 1, 1, 2, 1, ("echo_ack",)),
        ]
        self.assertEqual(self.rows(session), rows)
        self.assertEqual(session.status("left"), ("established", 1, 1, (1,), 1, 1, 0))
        self.assertEqual(session.status("right"), ("established", 1, 1, (2,), 1, 1, 0))
        self.assertEqual(session.association("left"), (1, 1, (2,), 0, 0, 0, (), 0, (), 0, 0, "no"))
        self.assertEqual(session.press(97), 1)
        rows.append(("left", 1, 1, 1, 2, ("data", 1, 0, 0, (0, 97))))
        self.assertEqual(self.rows(session), rows)
        underlined = look(4, 12, "\x1b[4ma")
        self.assertEqual(session.shown(), underlined)
        self.assertEqual(session.shown()[0][0][0], (97, (4,)))
        self.assertEqual((session.sure(), session.desk_screen()), (BLANK, BLANK))
        self.assertEqual((session.guesses(), session.echo()), ((0, 0, 1), (0, 0)))
        self.assertEqual((session.typed(), session.done(), session.looks()), ([(1, 1, 97)], [], []))
        self.assertEqual(session.deliver(4), "new")
        rows.append(("right", 1, 1, 2, 1, ("ack", 1, ())))
        rows.append(("right", 1, 1, 2, 1, ("frame", 1, 0, 1, 1, tuple(difference(BLANK, A)))))
        self.assertEqual(self.rows(session), rows)
        self.assertEqual((session.desk_screen(), session.sure(), session.shown()), (A, BLANK, underlined))
        self.assertEqual((session.done(), session.echo()), ([(1, 1, 97)], (1, 0)))
        self.assertEqual(session.deliver(6), "frame")
        rows.append(("left", 1, 1, 1, 2, ("frame_ack", 1)))
        self.assertEqual(self.rows(session), rows)
        self.assertEqual((session.desk_screen(), session.sure(), session.shown()), (A, A, A))
        self.assertEqual(session.sure()[0][0][0], (97, ()))
        self.assertEqual((session.guesses(), session.echo()), ((1, 0, 0), (1, 1)))
        self.assertEqual(session.looks(), [(1, 1, 1, A)])
        self.assertEqual(session.association("left"), (1, 1, (2,), 1, 1, 0, (), 0, (), 0, 0, "no"))
        self.assertEqual(session.association("right"), (1, 1, (1,), 0, 0, 0, (), 1, (), 0, 1, "no"))
        self.assertEqual([session.reports(side) for side in ("left", "right")], [[], []])

    def test_what_is_still_on_its_way(self):
        session = Session(Program([(0, None, 0, (256,))]))
        session.connect("left", 2)
        for place in range(4):
            session.deliver(place)
        session.press(97)
        session.deliver(4)
        session.deliver(6)
        self.assertEqual(session.deliver(5), "acknowledged")
        self.assertEqual(session.deliver(7), "frame_ack")
        self.assertEqual(session.packets_sent(), 8)
        self.assertEqual(session.association("left")[5], 1)
        self.assertEqual((session.time_out("left"), session.time_out("right")), (0, 0))
