"""What several tests of desks, seats and sessions use."""

from fardesk.packets import other_side
from fardesk.programs import Program
from fardesk.sessions import Session
from tests.nets import SIDES, chunks_since, rows_since

# Writes what it reads.
ECHO = ((0, None, 0, (256,)),)
# Reads enter, back and the keys that move the cursor, and writes all other characters.
EDITOR = (
    (0, 13, 0, (13, 10)), (0, 127, 0, (8, 32, 8)), (0, 27, 1, ()), (1, 91, 2, ()), (1, 79, 2, ()), (1, None, 0, ()),
    (2, 65, 0, (27, 91, 65)), (2, 66, 0, (27, 91, 66)), (2, 67, 0, (27, 91, 67)), (2, 68, 0, (27, 91, 68)),
    (2, None, 0, ()), (0, None, 0, (256,)),
)


def open_from(session, side):
    """Begin an association from an end; only the four packets of it arrive."""
    start = session.packets_sent()
    session.connect(side, session.status(other_side(side))[3][0])
    place = start
    while session.association(side) is None:
        session.deliver(place)
        place += 1


def made(rules=ECHO, **more):
    return Session(Program(rules), **more)


def joined(rules=ECHO, side="left", **more):
    """A session with an association that was begun from an end."""
    session = made(rules, **more)
    open_from(session, side)
    return session


def kinds_since(session, start):
    return [chunk[0] for chunk in chunks_since(session, start)]


def places_of(session, kind, start=0):
    """The indices of the packets with a kind of chunk."""
    return [place for place in range(start, session.packets_sent()) if session.packet(place).chunk[0] == kind]


def shown_by(session):
    """What is seen at both ends."""
    return session.desk_screen(), session.sure(), session.shown(), session.guesses(), session.echo()


def recorded(session):
    return list(session.typed()), list(session.done()), list(session.looks())


def everything(session):
    """All that a session tells."""
    ends = [(session.status(side), session.association(side), list(session.reports(side))) for side in SIDES]
    return shown_by(session), recorded(session), ends, rows_since(session, 0)
