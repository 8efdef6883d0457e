import unittest

from fardesk.differences import difference
from fardesk.errors import RefusedError
from fardesk.screens import blank_screen
from fardesk.states import Hearer, Teller
from tests.helpers import look

BLANK = blank_screen(2, 8)
NEW = look(2, 8, "ls\r\n\x1b[1ma.t\x1b[0m")


def screen(number):
    """Another screen for each number."""
    return look(2, 8, str(number))


def teller_with(sent):
    """A teller with so many sent states besides the state 0."""
    teller = Teller(BLANK)
    for number in range(1, sent + 1):
        teller.tell(screen(number), number)
        teller.datagram()
    return teller


def whole(teller):
    return teller.numbers(), teller.kept()


class TellerCase(unittest.TestCase):
    def refused(self, teller, reason, call, *arguments):
        """A call is refused and changes nothing."""
        before = whole(teller)
        with self.assertRaises(RefusedError) as caught:
            call(*arguments)
        self.assertEqual(caught.exception.reason, reason)
        self.assertEqual(whole(teller), before)


class TestExample(unittest.TestCase):
    def test_all_of_it(self):
        teller = Teller(BLANK)
        self.assertEqual(teller.tell(NEW, 0), 1)
        datagram = teller.datagram()
        self.assertEqual(datagram, (1, 0, 1, 0, difference(BLANK, NEW)))
        hearer = Hearer(BLANK)
        self.assertIs(hearer.hear(datagram), True)
        self.assertIs(hearer.hear(datagram), False)
        self.assertEqual(teller.acknowledge(1), 1)
        self.assertEqual(teller.datagram(), (2, 1, 1, 0, []))


class TestTelling(TellerCase):
    def test_a_new_teller(self):
        teller = Teller(NEW)
        self.assertEqual(whole(teller), ((0, 0, 0), [0]))
        self.assertEqual(teller.datagram(), (1, 0, 0, 0, []))

    def test_another_screen(self):
        teller = Teller(BLANK)
        self.assertEqual(teller.tell(NEW, 0), 1)
        self.assertEqual(whole(teller), ((1, 0, 0), [0, 1]))

    def test_another_echo_with_the_same_screen(self):
        teller = Teller(BLANK)
        self.assertEqual(teller.tell(BLANK, 3), 1)
        self.assertEqual(teller.numbers(), (1, 0, 3))
        self.assertEqual(teller.datagram(), (1, 0, 1, 3, []))

    def test_the_same_screen_and_echo(self):
        teller = Teller(BLANK)
        self.assertEqual(teller.tell(BLANK, 0), 0)
        self.assertEqual(whole(teller), ((0, 0, 0), [0]))
        teller.tell(NEW, 2)
        self.assertEqual(teller.tell(NEW, 2), 1)
        self.assertEqual(teller.tell(look(2, 8, "ls\r\n\x1b[1ma.t"), 2), 1)
        self.assertEqual(whole(teller), ((1, 0, 2), [0, 1]))
        teller.datagram()
        self.assertEqual(teller.tell(NEW, 2), 1)
        teller.acknowledge(1)
        self.assertEqual(teller.tell(NEW, 2), 1)

    def test_only_the_newest_state_counts(self):
        teller = Teller(BLANK)
        teller.tell(NEW, 0)
        teller.datagram()
        self.assertEqual(teller.tell(BLANK, 0), 2)
        self.assertEqual(teller.tell(NEW, 0), 3)

    def test_each_part_of_a_screen_counts(self):
        teller = Teller(BLANK)
        lines, cursor, visible, title = BLANK
        self.assertEqual(teller.tell((lines, (0, 1), visible, title), 0), 1)
        self.assertEqual(teller.tell((lines, (0, 1), False, title), 0), 2)
        self.assertEqual(teller.tell((lines, (0, 1), False, (97,)), 0), 3)
        self.assertEqual(teller.tell(blank_screen(3, 8), 0), 4)

    def test_an_echo_that_decreases(self):
        teller = Teller(BLANK)
        teller.tell(NEW, 5)
        self.refused(teller, "echo must not decrease", teller.tell, BLANK, 4)
        self.refused(teller, "echo must not decrease", teller.tell, NEW, 4)
        self.assertEqual(teller.tell(BLANK, 5), 2)

    def test_echoes_are_compared_with_that_of_the_newest_state(self):
        teller = Teller(BLANK)
        teller.tell(NEW, 5)
        teller.tell(NEW, 7)
        self.refused(teller, "echo must not decrease", teller.tell, NEW, 6)
        self.assertEqual(teller.tell(NEW, 9), 3)

    def test_a_state_that_was_never_sent_is_forgotten(self):
        teller = Teller(BLANK)
        teller.tell(screen(1), 0)
        teller.tell(screen(2), 0)
        self.assertEqual(whole(teller), ((2, 0, 0), [0, 2]))
        teller.datagram()
        teller.tell(screen(3), 0)
        self.assertEqual(whole(teller), ((3, 0, 0), [0, 2, 3]))
        teller.tell(screen(4), 0)
        self.assertEqual(whole(teller), ((4, 0, 0), [0, 2, 4]))


class TestDatagrams(TellerCase):
    def test_they_are_counted(self):
        teller = Teller(BLANK)
        teller.tell(NEW, 1)
        for serial in range(1, 6):
            self.assertEqual(teller.datagram(), (serial, 0, 1, 1, difference(BLANK, NEW)))
        self.assertEqual(whole(teller), ((1, 0, 1), [0, 1]))

    def test_they_lead_from_the_acknowledged_state(self):
        teller = teller_with(3)
        self.assertEqual(teller.datagram(), (4, 0, 3, 3, difference(BLANK, screen(3))))
        teller.acknowledge(2)
        self.assertEqual(teller.datagram(), (5, 2, 3, 3, difference(screen(2), screen(3))))
        teller.tell(screen(4), 9)
        self.assertEqual(teller.datagram(), (6, 2, 4, 9, difference(screen(2), screen(4))))
        teller.acknowledge(4)
        self.assertEqual(teller.datagram(), (7, 4, 4, 9, []))

    def test_40_sent_states_and_one_more(self):
        teller = teller_with(40)
        self.assertEqual(teller.kept(), list(range(41)))
        self.assertEqual(teller.datagram()[0], 41)
        teller.tell(screen(41), 41)
        self.assertEqual(teller.kept(), list(range(42)))
        self.refused(teller, "too many states", teller.datagram)
        teller.tell(screen(42), 42)
        self.assertEqual(teller.kept(), list(range(41)) + [42])
        self.refused(teller, "too many states", teller.datagram)
        self.refused(teller, "unknown state", teller.acknowledge, 42)

    def test_39_sent_states_and_one_more(self):
        teller = teller_with(39)
        teller.tell(screen(40), 40)
        self.assertEqual(teller.datagram()[:4], (40, 0, 40, 40))

    def test_an_acknowledgement_makes_room(self):
        for number in (1, 20, 40):
            teller = teller_with(40)
            teller.tell(screen(41), 41)
            self.refused(teller, "too many states", teller.datagram)
            teller.acknowledge(number)
            # A refused datagram was not counted.
            self.assertEqual(teller.datagram(), (41, number, 41, 41, difference(screen(number), screen(41))))
            self.assertEqual(teller.kept(), list(range(number, 42)))

    def test_room_for_40_behind_the_acknowledged_state(self):
        teller = teller_with(40)
        teller.acknowledge(1)
        teller.tell(screen(41), 41)
        self.assertEqual(teller.datagram()[2], 41)
        teller.tell(screen(42), 42)
        self.refused(teller, "too many states", teller.datagram)


class TestAcknowledging(TellerCase):
    def test_it_forgets_earlier_states(self):
        teller = teller_with(5)
        self.assertEqual(teller.acknowledge(3), 3)
        self.assertEqual(whole(teller), ((5, 3, 5), [3, 4, 5]))
        self.assertEqual(teller.acknowledge(5), 5)
        self.assertEqual(whole(teller), ((5, 5, 5), [5]))

    def test_old_and_equal_numbers(self):
        teller = teller_with(5)
        self.assertEqual(teller.acknowledge(0), 0)
        teller.acknowledge(3)
        for number in (0, 1, 2, 3):
            self.assertEqual(teller.acknowledge(number), 3)
            self.assertEqual(whole(teller), ((5, 3, 5), [3, 4, 5]))

    def test_numbers_that_were_forgotten_before_they_were_sent(self):
        teller = Teller(BLANK)
        teller.tell(screen(1), 0)
        teller.tell(screen(2), 0)
        teller.datagram()
        self.refused(teller, "unknown state", teller.acknowledge, 1)
        self.assertEqual(teller.acknowledge(2), 2)
        self.assertEqual(teller.acknowledge(1), 2)

    def test_unsent_and_future_numbers(self):
        teller = teller_with(2)
        teller.tell(screen(3), 3)
        for number in (3, 4, 1000):
            self.refused(teller, "unknown state", teller.acknowledge, number)
        teller.datagram()
        self.assertEqual(teller.acknowledge(3), 3)
        self.refused(teller, "unknown state", teller.acknowledge, 4)

    def test_an_unsent_state_stays(self):
        teller = teller_with(2)
        teller.tell(screen(3), 3)
        self.assertEqual(teller.acknowledge(2), 2)
        self.assertEqual(whole(teller), ((3, 2, 3), [2, 3]))
        self.assertEqual(teller.datagram(), (3, 2, 3, 3, difference(screen(2), screen(3))))


class TestOwnership(unittest.TestCase):
    def test_returned_lists_are_the_callers(self):
        teller = Teller(BLANK)
        teller.tell(NEW, 1)
        teller.kept().clear()
        self.assertEqual(teller.kept(), [0, 1])
        teller.datagram()[4].clear()
        self.assertEqual(teller.datagram()[4], difference(BLANK, NEW))
        teller.acknowledge(1)
        teller.datagram()[4].append(97)
        self.assertEqual(teller.datagram()[4], [])

    def test_tellers_share_nothing(self):
        first, second = Teller(BLANK), Teller(BLANK)
        first.tell(NEW, 1)
        first.datagram()
        self.assertEqual(whole(second), ((0, 0, 0), [0]))
        self.assertEqual(second.datagram()[0], 1)
