import unittest

from fardesk.errors import (
    AlreadyClosed, AssociationClosing, DeskError, InvalidArgument, NoAssociation, NoSuchPacket, NotClosed,
    TooManyMessages, TooManyPackets,
)
from fardesk.programs import Program
from fardesk.sessions import Session
from tests.afar import ECHO, everything, joined, made, places_of
from tests.nets import SIDES

NO_KEYS = (
    [*range(32)] + [*range(127, 160)] + [-1, -97, 256, 1000, True, False]
    + ["", "a", "Enter", "enter ", "pageup", "page  up", "up down", "f1", "\x1b"]
)
NO_ROWS = (0, 13, -1, 100, True, False, None, "4", (4,))
NO_COLUMNS = (1, 0, 41, -2, 100, True, False, None, "12", [12])


class TestMaking(unittest.TestCase):
    def refused(self, name, **arguments):
        with self.assertRaises(InvalidArgument) as caught:
            Session(Program(ECHO), **arguments)
        self.assertEqual(caught.exception.name, name)

    def test_rows(self):
        for rows in NO_ROWS:
            self.refused("rows", rows=rows)
            self.refused("rows", rows=rows, columns=1, seat=(), desk=(), window=0)
        for rows in (1, 12):
            self.assertEqual(len(made(rows=rows).desk_screen()[0]), rows)

    def test_columns(self):
        for columns in NO_COLUMNS:
            self.refused("columns", columns=columns)
            self.refused("columns", columns=columns, seat=(1, 1), desk=(), window=33)
        for columns in (2, 40):
            self.assertEqual(len(made(columns=columns).desk_screen()[0][0]), columns)

    def test_addresses(self):
        for bad in ((), [], (1, 1), (256,), (True,), (1, 2, 3, 4, 5, 6, 7), "ab", 1, None):
            self.refused("addresses", seat=bad)
            self.refused("addresses", desk=bad)
            self.refused("addresses", seat=bad, window=0)
            self.refused("addresses", desk=bad, window=0)

    def test_window(self):
        for bad in (0, 33, -1, True, False, None, "8"):
            self.refused("window", window=bad)


class ErrorCase(unittest.TestCase):
    def refused(self, session, error, call, name=None):
        """A call is refused with an error, and changes nothing."""
        before = everything(session)
        with self.assertRaises(DeskError) as caught:
            call(session)
        self.assertIs(type(caught.exception), error)
        if error is InvalidArgument:
            self.assertEqual(caught.exception.name, name)
        self.assertEqual(everything(session), before)

    def crowded(self):
        """A session with an association and without room."""
        session = joined()
        while session.network.has_room():
            session.probe("left")
        return session


class TestPressing(ErrorCase):
    def test_keys_that_are_none(self):
        for key in NO_KEYS:
            for session in (made(), joined()):
                self.refused(session, InvalidArgument, lambda session: session.press(key), "key")
        session = self.crowded()
        self.refused(session, InvalidArgument, lambda session: session.press(256), "key")

    def test_refused_keys(self):
        def press(session):
            session.press(97)
        session = made()
        self.refused(session, NoAssociation, press)
        session.connect("left", 2)
        self.refused(session, NoAssociation, press)
        session.deliver(0)
        session.deliver(1)
        self.refused(session, NoAssociation, press)
        session.deliver(2)
        # The right end has the association; keys are typed at the left one.
        self.refused(session, NoAssociation, press)
        session.deliver(3)
        self.assertEqual(session.press(97), 1)
        session.finish("left")
        self.refused(session, AssociationClosing, press)
        session = joined()
        session.finish("right")
        session.deliver(4)
        self.refused(session, AssociationClosing, press)
        self.refused(self.crowded(), TooManyPackets, press)

    def test_nothing_is_handed_to_the_seat(self):
        session = joined()
        session.press(97)
        session.finish("left")
        with self.assertRaises(AssociationClosing):
            session.press(98)
        self.assertEqual(session.guesses(), (0, 0, 1))
        self.assertEqual(session.shown()[0][0][1], (32, ()))
        # The key that was not typed has no number: the echo of one key decides the one foretelling.
        session.deliver(4)
        session.deliver(places_of(session, "frame")[-1])
        self.assertEqual((session.guesses(), session.echo()), ((1, 0, 0), (1, 1)))

    def test_500_keys(self):
        session = joined()
        for number in range(1, 501):
            self.assertEqual(session.press(97), number)
        self.refused(session, TooManyMessages, lambda session: session.press(97))
        self.refused(session, InvalidArgument, lambda session: session.press(7), "key")
        self.assertEqual(len(session.typed()), 500)


class TestNetwork(ErrorCase):
    def test_sides(self):
        for side in ("", "Left", "seat", "desk"):
            for call in (
                    lambda session: session.connect(side, 256), lambda session: session.probe(side),
                    lambda session: session.set_addresses(side, ()), lambda session: session.finish(side),
                    lambda session: session.abort(side), lambda session: session.restart(side),
                    lambda session: session.status(side), lambda session: session.association(side),
                    lambda session: session.reports(side), lambda session: session.time_out(side)):
                self.refused(made(), InvalidArgument, call, "side")
                self.refused(joined(), InvalidArgument, call, "side")

    def test_arguments(self):
        for side in SIDES:
            for bad in (-1, 256, True):
                self.refused(made(), InvalidArgument, lambda session: session.connect(side, bad), "address")
                self.refused(joined(), InvalidArgument, lambda session: session.connect(side, bad), "address")
            for bad in ((), (1, 1), [256], (True,), (1, 2, 3, 4, 5, 6, 7)):
                self.refused(joined(), InvalidArgument, lambda session: session.set_addresses(side, bad), "addresses")

    def test_phases(self):
        for side in SIDES:
            self.refused(joined(), NotClosed, lambda session: session.connect(side, 2))
            self.refused(made(), AlreadyClosed, lambda session: session.abort(side))
            for call in (lambda session: session.probe(side), lambda session: session.finish(side)):
                self.refused(made(), NoAssociation, call)
            session = joined()
            session.finish(side)
            self.refused(session, AssociationClosing, lambda session: session.finish(side))

    def test_indices(self):
        for place in (-1, 4, 1000):
            for call in (lambda session: session.packet(place), lambda session: session.deliver(place)):
                self.refused(joined(), NoSuchPacket, call)
        self.refused(self.crowded(), NoSuchPacket, lambda session: session.deliver(-1))

    def test_room(self):
        session = self.crowded()
        for side in SIDES:
            for call in (
                    lambda session: session.connect(side, 2), lambda session: session.probe(side),
                    lambda session: session.set_addresses(side, (1,)), lambda session: session.finish(side),
                    lambda session: session.abort(side), lambda session: session.time_out(side),
                    lambda session: session.deliver(0), lambda session: session.deliver(session.packets_sent() - 1)):
                self.refused(session, TooManyPackets, call)
        for side in SIDES:
            self.assertIsNone(session.restart(side))
