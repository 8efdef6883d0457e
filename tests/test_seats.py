import unittest

from fardesk.differences import difference
from fardesk.foretelling import Foreteller
from fardesk.screens import blank_screen
from fardesk.seats import Seat
from fardesk.states import Hearer, Teller
from tests.helpers import look, text

BLANK = blank_screen(2, 8)


def everything(seat):
    return seat.sure(), seat.shown(), seat.numbers(), seat.guesses()


def seat_with(*keys):
    seat = Seat(2, 8)
    for key in keys:
        seat.press(key)
    return seat


def to(number, screen, echo, base=0, old=BLANK):
    """A datagram that leads to a screen."""
    return number, base, number, echo, difference(old, screen)


class TestNew(unittest.TestCase):
    def test_it_is_blank(self):
        for rows, columns in ((1, 2), (2, 8), (12, 40)):
            blank = blank_screen(rows, columns)
            self.assertEqual(everything(Seat(rows, columns)), (blank, blank, (0, 0), (0, 0, 0)))

    def test_two_seats(self):
        one, two = Seat(2, 8), Seat(2, 8)
        one.press(97)
        one.hear(to(1, look(2, 8, "a"), 1))
        self.assertEqual(everything(two), (BLANK, BLANK, (0, 0), (0, 0, 0)))

    def test_sizes_beyond_the_ranges_are_no_error(self):
        for rows, columns in ((13, 41), (0, 5), (1, 1)):
            self.assertEqual(Seat(rows, columns).press(97), 1)


class TestPressing(unittest.TestCase):
    def test_numbers_and_what_is_shown(self):
        seat = Seat(2, 8)
        self.assertEqual([seat.press(97), seat.press(98)], [1, 2])
        self.assertEqual(seat.shown(), look(2, 8, "\x1b[4mab"))
        self.assertEqual((seat.sure(), seat.numbers(), seat.guesses()), (BLANK, (0, 0), (0, 0, 2)))
        self.assertEqual([seat.press("enter"), seat.press(99)], [3, 4])
        self.assertEqual((seat.shown(), seat.guesses()), (look(2, 8, "\x1b[4mab"), (0, 0, 2)))


class TestHearing(unittest.TestCase):
    def test_accepted(self):
        seat = seat_with(97, 98)
        one, two = look(2, 8, "a"), look(2, 8, "ab")
        self.assertIs(seat.hear(to(1, one, 1)), True)
        self.assertEqual(everything(seat), (one, look(2, 8, "a\x1b[4mb"), (1, 1), (1, 0, 1)))
        self.assertIs(seat.hear(to(2, two, 2, 1, one)), True)
        self.assertEqual(everything(seat), (two, two, (2, 2), (2, 0, 0)))

    def test_refused_and_doubled(self):
        seat = seat_with(97, 98)
        one = look(2, 8, "a")
        seat.hear(to(3, one, 1))
        before = everything(seat)
        for datagram in (to(3, one, 1), to(2, look(2, 8, "x"), 1), to(4, look(2, 8, "x"), 2, 2), to(5, one, 2, 7)):
            self.assertIs(seat.hear(datagram), False)
            self.assertEqual(everything(seat), before)

    def test_the_text_is_applied_to_its_base(self):
        seat = seat_with(97)
        one, two = look(2, 8, "a"), look(2, 8, "abc\r\nd")
        seat.hear(to(1, one, 1))
        self.assertTrue(seat.hear((2, 0, 2, 1, difference(BLANK, two))))
        self.assertEqual(seat.sure(), two)

    def test_wrong_foretellings(self):
        seat = seat_with(97, 98, 99)
        screen = look(2, 8, "ax")
        self.assertTrue(seat.hear(to(1, screen, 2)))
        # The third one is dropped, and counts in neither.
        self.assertEqual(everything(seat), (screen, screen, (1, 2), (1, 1, 0)))

    def test_dropped_foretellings(self):
        seat = seat_with(97, 98)
        screen = look(2, 8, "\r\n")
        self.assertTrue(seat.hear(to(1, screen, 0)))
        self.assertEqual(everything(seat), (screen, screen, (1, 0), (0, 0, 0)))
        seat.press(99)
        self.assertEqual(seat.guesses(), (0, 0, 0))
        self.assertTrue(seat.hear(to(2, look(2, 8, "abc"), 3)))
        self.assertEqual(seat.guesses(), (0, 0, 0))
        seat.press(100)
        self.assertEqual(seat.guesses(), (0, 0, 1))

    def test_another_size(self):
        seat = seat_with(97)
        screen = look(3, 5, "a")
        self.assertTrue(seat.hear(to(1, screen, 0)))
        self.assertEqual((seat.sure(), seat.shown(), seat.guesses()), (screen, screen, (0, 0, 0)))

    def test_with_a_hearer_and_a_foreteller(self):
        teller, hearer, foreteller, seat = Teller(BLANK), Hearer(BLANK), Foreteller(BLANK), Seat(2, 8)
        string, right, wrong = "", 0, 0
        for echo, key in enumerate(text("hello you"), 1):
            self.assertEqual(seat.press(key), foreteller.press(key))
            string += chr(key) if echo != 5 else "?"
            teller.tell(look(2, 8, string), echo)
            datagram = teller.datagram()
            if echo % 2:
                self.assertTrue(hearer.hear(datagram))
                more = foreteller.update(hearer.screen(), echo)
                right, wrong = right + more[0], wrong + more[1]
                self.assertTrue(seat.hear(datagram))
                teller.acknowledge(seat.numbers()[0])
            self.assertEqual(everything(seat), (hearer.screen(), foreteller.screen(), hearer.numbers(),
                                                (right, wrong, foreteller.numbers()[2])))
        self.assertGreater(right, 0)
        self.assertGreater(wrong, 0)


class TestBeginning(unittest.TestCase):
    def test_what_it_sets_back(self):
        seat = seat_with(97, 98, 99)
        seat.hear(to(1, look(2, 8, "ax"), 2))
        seat.press(100)
        self.assertIsNone(seat.begin())
        self.assertEqual(everything(seat), (BLANK, BLANK, (0, 0), (1, 1, 0)))
        # Keys and datagrams count anew.
        self.assertEqual(seat.press(97), 1)
        self.assertEqual(seat.guesses(), (1, 1, 1))
        self.assertTrue(seat.hear(to(1, look(2, 8, "a"), 1)))
        self.assertEqual((seat.numbers(), seat.guesses()), ((1, 1), (2, 1, 0)))

    def test_it_is_blank_with_the_first_size(self):
        seat = seat_with(97)
        seat.hear(to(1, look(3, 5, "a"), 0))
        seat.begin()
        self.assertEqual((seat.sure(), seat.shown()), (BLANK, BLANK))

    def test_beginning_twice(self):
        seat = Seat(2, 8)
        seat.begin()
        seat.begin()
        self.assertEqual(everything(seat), (BLANK, BLANK, (0, 0), (0, 0, 0)))


class TestOwnership(unittest.TestCase):
    def test_screens_stay_as_they_were(self):
        seat = seat_with(97)
        shown, sure = seat.shown(), seat.sure()
        seat.hear(to(1, look(2, 8, "abc"), 1))
        seat.press(98)
        self.assertEqual((shown, sure), (look(2, 8, "\x1b[4ma"), BLANK))

    def test_a_datagram_stays(self):
        seat = seat_with(97)
        told = difference(BLANK, look(2, 8, "a"))
        kept = list(told)
        seat.hear((1, 0, 1, 1, told))
        self.assertEqual(told, kept)
        told.extend(text("zzz"))
        told[0] = 65
        seat.hear((2, 1, 2, 1, text("b")))
        self.assertEqual(seat.sure(), look(2, 8, "ab"))
