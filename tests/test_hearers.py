import unittest

from fardesk.differences import applied, difference
from fardesk.screens import blank_screen, is_screen
from fardesk.states import Hearer
from tests.drawing import chances, drawn_text
from tests.helpers import look, text

BLANK = blank_screen(2, 8)


def whole(hearer):
    return hearer.numbers(), hearer.screen(), hearer.kept()


def hearer_with(many):
    """A hearer with so many states behind the state 0, each of which leads from the state 0."""
    hearer = Hearer(BLANK)
    for number in range(1, many + 1):
        assert hearer.hear((number, 0, number, number, text(str(number))))
    return hearer


class HearerCase(unittest.TestCase):
    def ignored(self, hearer, datagram):
        """A datagram is not accepted and changes nothing."""
        before = whole(hearer)
        self.assertIs(hearer.hear(datagram), False)
        self.assertEqual(whole(hearer), before)


class TestAccepted(HearerCase):
    def test_a_new_hearer(self):
        screen = look(3, 5, "ab")
        self.assertEqual(whole(Hearer(screen)), ((0, 0), screen, [0]))

    def test_the_newest_state(self):
        hearer = Hearer(BLANK)
        self.assertIs(hearer.hear((1, 0, 1, 7, text("ab"))), True)
        self.assertEqual(whole(hearer), ((1, 7), look(2, 8, "ab"), [0, 1]))
        self.assertIs(hearer.hear((2, 0, 5, 9, text("c"))), True)
        self.assertEqual(whole(hearer), ((5, 9), look(2, 8, "c"), [0, 1, 5]))

    def test_the_text_is_applied_to_the_screen_of_the_base(self):
        hearer = hearer_with(3)
        self.assertTrue(hearer.hear((4, 1, 4, 4, text("x"))))
        self.assertEqual(hearer.screen(), look(2, 8, "1x"))
        self.assertTrue(hearer.hear((5, 3, 5, 5, text("y"))))
        self.assertEqual(hearer.screen(), look(2, 8, "3y"))

    def test_states_before_the_base_are_forgotten(self):
        hearer = hearer_with(5)
        self.assertTrue(hearer.hear((6, 3, 8, 6, text("x"))))
        self.assertEqual(hearer.kept(), [3, 4, 5, 8])
        self.assertTrue(hearer.hear((7, 8, 9, 6, text("x"))))
        self.assertEqual(hearer.kept(), [8, 9])

    def test_serials_do_not_matter(self):
        hearer = Hearer(BLANK)
        self.assertTrue(hearer.hear((9, 0, 1, 0, text("a"))))
        self.assertTrue(hearer.hear((0, 0, 2, 0, text("b"))))
        self.assertTrue(hearer.hear((9, 0, 3, 0, text("c"))))
        self.assertEqual(hearer.screen(), look(2, 8, "c"))

    def test_the_echo_is_taken_as_it_is(self):
        hearer = Hearer(BLANK)
        hearer.hear((1, 0, 1, 9, []))
        hearer.hear((2, 0, 2, 4, []))
        self.assertEqual(hearer.numbers(), (2, 4))

    def test_any_text(self):
        chance = chances(34)
        hearer = Hearer(BLANK)
        for number in range(1, 120):
            told = drawn_text(chance, 15)
            expected = applied(hearer.screen(), told)
            self.assertTrue(hearer.hear((number, number - 1, number, number, told)))
            self.assertEqual(hearer.screen(), expected)
            self.assertTrue(is_screen(hearer.screen()))

    def test_another_size(self):
        hearer = Hearer(BLANK)
        self.assertTrue(hearer.hear((1, 0, 1, 0, difference(BLANK, look(3, 5, "abc")))))
        self.assertEqual(hearer.screen(), look(3, 5, "abc"))


class TestNotAccepted(HearerCase):
    def test_numbers_that_are_not_greater(self):
        hearer = hearer_with(3)
        for number in (0, 1, 2, 3):
            self.ignored(hearer, (4, 0, number, 9, text("x")))
        self.assertTrue(hearer.hear((4, 0, 4, 9, text("x"))))

    def test_bases_that_are_not_kept(self):
        hearer = hearer_with(3)
        hearer.hear((4, 2, 6, 4, []))
        self.assertEqual(hearer.kept(), [2, 3, 6])
        for base in (0, 1, 4, 5, 7, 8, 100):
            self.ignored(hearer, (5, base, 7, 9, text("x")))
        for base in (2, 3, 6):
            again = hearer_with(3)
            again.hear((4, 2, 6, 4, []))
            self.assertTrue(again.hear((5, base, 7, 9, text("x"))))

    def test_a_datagram_that_comes_twice(self):
        hearer = Hearer(BLANK)
        datagram = (1, 0, 1, 1, text("a"))
        self.assertTrue(hearer.hear(datagram))
        self.ignored(hearer, datagram)
        self.assertTrue(hearer.hear((2, 1, 2, 2, text("b"))))
        self.ignored(hearer, datagram)

    def test_64_states_from_the_base_on(self):
        hearer = hearer_with(63)
        self.assertEqual(hearer.kept(), list(range(64)))
        self.ignored(hearer, (64, 0, 64, 64, text("x")))
        # Only 63 states have a number of at least 1.
        self.assertTrue(hearer.hear((64, 1, 64, 64, text("x"))))
        self.assertEqual(hearer.kept(), list(range(1, 65)))
        self.ignored(hearer, (65, 1, 65, 65, text("x")))
        self.assertTrue(hearer.hear((65, 64, 65, 65, text("x"))))
        self.assertEqual(hearer.kept(), [64, 65])

    def test_63_states_from_the_base_on(self):
        hearer = hearer_with(62)
        self.assertTrue(hearer.hear((63, 0, 63, 63, text("x"))))
        self.assertEqual(len(hearer.kept()), 64)


class TestOwnership(unittest.TestCase):
    def test_returned_lists_are_the_callers(self):
        hearer = hearer_with(2)
        hearer.kept().clear()
        self.assertEqual(hearer.kept(), [0, 1, 2])

    def test_a_text_that_is_handed_in_stays_and_may_be_changed_later(self):
        hearer = Hearer(BLANK)
        told = text("ab")
        hearer.hear((1, 0, 1, 0, told))
        self.assertEqual(told, text("ab"))
        told.append(99)
        self.assertEqual(hearer.screen(), look(2, 8, "ab"))
        hearer.hear((2, 1, 2, 0, text("d")))
        self.assertEqual(hearer.screen(), look(2, 8, "abd"))
