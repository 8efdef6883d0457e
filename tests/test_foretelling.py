import unittest

from fardesk.errors import RefusedError
from fardesk.foretelling import Foreteller
from fardesk.keys import KEY_NAMES
from fardesk.screens import blank_screen
from tests.helpers import at, look

NEW = look(2, 8, "ls\r\n\x1b[1ma.t\x1b[0m")
BLANK = blank_screen(3, 8)


def cursor_at(row, column, string=""):
    """A screen with 3 rows and 8 columns, with the cursor in a cell."""
    return look(3, 8, string + at(row, column))


def whole(foreteller):
    return foreteller.numbers(), foreteller.screen()


def pressed(screen, *keys):
    """A foreteller with a screen that was given keys, characters as strings of length 1."""
    foreteller = Foreteller(screen)
    for number, key in enumerate(keys):
        assert press(foreteller, key) == number + 1
    return foreteller


def press(foreteller, key):
    return foreteller.press(ord(key) if isinstance(key, str) and len(key) == 1 else key)


class ForetellingCase(unittest.TestCase):
    def shows(self, foreteller, screen):
        self.assertEqual(foreteller.screen(), screen)

    def refused(self, foreteller, reason, screen, echo):
        before = whole(foreteller)
        with self.assertRaises(RefusedError) as caught:
            foreteller.update(screen, echo)
        self.assertEqual(caught.exception.reason, reason)
        self.assertEqual(whole(foreteller), before)


class TestExample(unittest.TestCase):
    def setUp(self):
        self.foreteller = Foreteller(NEW)
        self.assertEqual(self.foreteller.press(120), 1)

    def test_what_it_shows(self):
        lines, _, visible, title = NEW
        first, second = lines
        expected = (first, second[:3] + ((120, (4,)),) + second[4:]), (1, 4), visible, title
        self.assertEqual(self.foreteller.screen(), expected)

    def test_an_update_that_decides_nothing(self):
        shown = self.foreteller.screen()
        self.assertEqual(self.foreteller.update(NEW, 0), (0, 0))
        self.assertEqual(self.foreteller.screen(), shown)
        self.assertEqual(self.foreteller.numbers(), (1, 0, 1, True))

    def test_an_update_that_decides_it_as_wrong(self):
        self.assertEqual(self.foreteller.update(NEW, 1), (0, 1))
        self.assertEqual(self.foreteller.screen(), NEW)
        self.assertEqual(self.foreteller.numbers(), (1, 1, 0, True))


class TestNew(unittest.TestCase):
    def test_it_shows_the_true_screen(self):
        for screen in (BLANK, NEW, blank_screen(1, 2), look(2, 8, "\xc4b\x1b[?25l\x1b]0;t\x07")):
            self.assertEqual(whole(Foreteller(screen)), ((0, 0, 0, True), screen))


class TestKeys(ForetellingCase):
    def test_narrow_characters(self):
        for column in range(7):
            for key in ("a", " ", "~", "\xa0", "\xbf"):
                foreteller = pressed(cursor_at(1, column), key)
                self.assertEqual(foreteller.numbers(), (1, 0, 1, True))
                self.shows(foreteller, cursor_at(1, column + 1, at(1, column) + "\x1b[4m" + key))

    def test_narrow_characters_in_the_last_column(self):
        foreteller = pressed(cursor_at(1, 7), "a")
        self.assertEqual(whole(foreteller), ((1, 0, 0, False), cursor_at(1, 7)))

    def test_back(self):
        for column in range(1, 8):
            foreteller = pressed(cursor_at(1, column, "\r\nabcdefgh"), "back")
            self.assertEqual(foreteller.numbers(), (1, 0, 1, True))
            self.shows(foreteller, cursor_at(1, column - 1, "\r\nabcdefgh" + at(1, column - 1) + "\x1b[4m "))

    def test_back_in_the_first_column(self):
        foreteller = pressed(cursor_at(1, 0), "back")
        self.assertEqual(whole(foreteller), ((1, 0, 0, False), cursor_at(1, 0)))

    def test_wide_characters(self):
        for key in ("\xc0", "\xff"):
            for column in (0, 3, 6, 7):
                foreteller = pressed(cursor_at(1, column), key)
                self.assertEqual(whole(foreteller), ((1, 0, 0, False), cursor_at(1, column)))

    def test_other_keys(self):
        for key in KEY_NAMES:
            if key != "back":
                for column in (0, 3, 7):
                    foreteller = pressed(cursor_at(1, column), key)
                    self.assertEqual(whole(foreteller), ((1, 0, 0, False), cursor_at(1, column)), key)

    def test_several_keys(self):
        foreteller = pressed(cursor_at(0, 2), "a", "b", "back", "c", "d")
        self.assertEqual(foreteller.numbers(), (5, 0, 5, True))
        self.shows(foreteller, look(3, 8, at(0, 2) + "\x1b[4macd"))

    def test_characters_until_the_last_column(self):
        foreteller = pressed(cursor_at(0, 5), "a", "b", "c")
        self.assertEqual(foreteller.numbers(), (3, 0, 2, False))
        self.shows(foreteller, look(3, 8, at(0, 5) + "\x1b[4mab"))
        self.assertEqual(foreteller.screen()[1], (0, 7))

    def test_back_from_the_last_column(self):
        foreteller = pressed(cursor_at(0, 5), "a", "b", "back")
        self.assertEqual(foreteller.numbers(), (3, 0, 3, True))
        self.assertEqual(foreteller.screen()[1], (0, 6))

    def test_back_until_the_first_column(self):
        foreteller = pressed(cursor_at(2, 1), "back", "back", "a")
        self.assertEqual(foreteller.numbers(), (3, 0, 1, False))
        self.assertEqual(foreteller.screen()[1], (2, 0))

    def test_narrow_screens(self):
        self.assertEqual(pressed(blank_screen(1, 2), "a", "b").numbers(), (2, 0, 1, False))
        self.assertEqual(pressed(blank_screen(1, 2), "a", "back", "b", "back").numbers(), (4, 0, 4, True))

    def test_no_key_is_foretold_behind_one_that_is_not(self):
        for key in ("enter", "\xc4", "up"):
            foreteller = pressed(cursor_at(1, 2), "a", key, "b", "back")
            self.assertEqual(foreteller.numbers(), (4, 0, 1, False))
            self.shows(foreteller, cursor_at(1, 3, at(1, 2) + "\x1b[4ma"))

    def test_64_pending_foretellings(self):
        foreteller = pressed(blank_screen(1, 40), *(["a", "back"] * 31))
        self.assertEqual(foreteller.numbers(), (62, 0, 62, True))
        press(foreteller, "a")
        press(foreteller, "b")
        self.assertEqual(foreteller.numbers(), (64, 0, 64, True))
        shown = foreteller.screen()
        press(foreteller, "c")
        press(foreteller, "d")
        self.assertEqual(foreteller.numbers(), (66, 0, 64, False))
        self.assertEqual(foreteller.screen(), shown)

    def test_room_for_more_behind_an_update(self):
        foreteller = pressed(blank_screen(1, 40), *(["a", "back"] * 32))
        self.assertEqual(foreteller.update(look(1, 40, "a"), 1), (1, 0))
        press(foreteller, "b")
        self.assertEqual(foreteller.numbers(), (65, 1, 64, True))
        press(foreteller, "c")
        self.assertEqual(foreteller.numbers(), (66, 1, 64, False))


class TestForetoldAgain(ForetellingCase):
    def test_when_all_keys_are_echoed(self):
        foreteller = pressed(cursor_at(1, 2), "a", "enter", "b")
        self.assertEqual(foreteller.numbers(), (3, 0, 1, False))
        self.assertEqual(foreteller.update(cursor_at(2, 1), 3), (0, 1))
        self.assertEqual(foreteller.numbers(), (3, 3, 0, True))
        press(foreteller, "c")
        self.assertEqual(foreteller.numbers(), (4, 3, 1, True))
        self.shows(foreteller, cursor_at(2, 2, at(2, 1) + "\x1b[4mc"))

    def test_not_before_all_keys_are_echoed(self):
        foreteller = pressed(cursor_at(1, 2), "a", "enter", "b")
        for echo in (0, 1, 2):
            foreteller.update(cursor_at(1, 2 + min(echo, 1), at(1, 2) + "a"), echo)
            press(foreteller, "c")
            self.assertEqual(foreteller.numbers()[2:], (1 if echo == 0 else 0, False))
        foreteller.update(cursor_at(1, 2), 6)
        press(foreteller, "d")
        self.assertEqual(foreteller.numbers(), (7, 6, 1, True))

    def test_echoed_keys_without_a_foretelling_decide_nothing(self):
        foreteller = pressed(cursor_at(1, 2), "enter", "a", "b")
        self.assertEqual(foreteller.update(cursor_at(1, 2), 1), (0, 0))
        self.assertEqual(foreteller.update(cursor_at(1, 2), 3), (0, 0))
        self.assertEqual(foreteller.numbers(), (3, 3, 0, True))


class TestUpdates(ForetellingCase):
    def setUp(self):
        self.foreteller = pressed(cursor_at(0, 2, "xy"), "a", "b", "c")

    def test_none_decided(self):
        shown = self.foreteller.screen()
        self.assertEqual(self.foreteller.update(cursor_at(0, 2, "xy"), 0), (0, 0))
        self.assertEqual(whole(self.foreteller), ((3, 0, 3, True), shown))

    def test_none_decided_on_another_screen(self):
        self.assertEqual(self.foreteller.update(cursor_at(0, 2, "zz......\r\nmore"), 0), (0, 0))
        self.assertEqual(self.foreteller.numbers(), (3, 0, 3, True))
        self.shows(self.foreteller, cursor_at(0, 5, "zz\x1b[4mabc\x1b[m...\r\nmore"))

    def test_some_decided_as_right(self):
        self.assertEqual(self.foreteller.update(cursor_at(0, 3, "xya"), 1), (1, 0))
        self.assertEqual(self.foreteller.numbers(), (3, 1, 2, True))
        self.shows(self.foreteller, cursor_at(0, 5, "xya\x1b[4mbc"))
        self.assertEqual(self.foreteller.update(cursor_at(0, 4, "xyab"), 2), (1, 0))
        self.shows(self.foreteller, cursor_at(0, 5, "xyab\x1b[4mc"))
        press(self.foreteller, "d")
        self.assertEqual(self.foreteller.numbers(), (4, 2, 2, True))

    def test_all_decided_as_right(self):
        self.assertEqual(self.foreteller.update(cursor_at(0, 5, "xyabc"), 3), (3, 0))
        self.assertEqual(whole(self.foreteller), ((3, 3, 0, True), cursor_at(0, 5, "xyabc")))

    def test_all_decided_as_right_with_another_cursor(self):
        self.assertEqual(self.foreteller.update(cursor_at(2, 5, "xyabc"), 3), (3, 0))
        self.assertEqual(whole(self.foreteller), ((3, 3, 0, True), cursor_at(2, 5, "xyabc")))

    def test_any_style_is_right(self):
        screen = cursor_at(0, 4, "xy\x1b[1;31ma\x1b[7mb\x1b[m")
        self.assertEqual(self.foreteller.update(screen, 2), (2, 0))
        self.assertEqual(self.foreteller.numbers(), (3, 2, 1, True))

    def test_one_that_is_wrong_drops_the_others(self):
        for screen, answer in ((cursor_at(0, 4, "xyaB"), (1, 1)), (cursor_at(0, 4, "xyAb"), (1, 1)),
                               (cursor_at(0, 4, "xyAB"), (0, 2)), (cursor_at(0, 4, "xy"), (0, 2))):
            foreteller = pressed(cursor_at(0, 2, "xy"), "a", "b", "c")
            self.assertEqual(foreteller.update(screen, 2), answer)
            self.assertEqual(whole(foreteller), ((3, 2, 0, False), screen))
            press(foreteller, "d")
            self.assertEqual(whole(foreteller), ((4, 2, 0, False), screen))

    def test_all_decided_as_wrong(self):
        self.assertEqual(self.foreteller.update(cursor_at(0, 5, "xy123"), 3), (0, 3))
        self.assertEqual(whole(self.foreteller), ((3, 3, 0, True), cursor_at(0, 5, "xy123")))

    def test_another_cursor_drops_the_others(self):
        for row, column in ((0, 2), (0, 4), (1, 3), (0, 5)):
            screen = cursor_at(row, column, "xya")
            foreteller = pressed(cursor_at(0, 2, "xy"), "a", "b", "c")
            self.assertEqual(foreteller.update(screen, 1), (1, 0))
            self.assertEqual(whole(foreteller), ((3, 1, 0, False), screen))

    def test_another_cursor_where_none_is_decided(self):
        for row, column in ((0, 1), (0, 3), (1, 2), (0, 5)):
            screen = cursor_at(row, column, "xy")
            foreteller = pressed(cursor_at(0, 2, "xy"), "a", "b", "c")
            self.assertEqual(foreteller.update(screen, 0), (0, 0))
            self.assertEqual(whole(foreteller), ((3, 0, 0, False), screen))
            press(foreteller, "d")
            self.assertEqual(foreteller.numbers(), (4, 0, 0, False))

    def test_another_size_drops_the_others(self):
        for rows, columns in ((2, 8), (4, 8), (3, 7), (3, 9), (8, 3)):
            foreteller = pressed(cursor_at(0, 1, "x"), "a", "b", "c")
            screen = look(rows, columns, "xa")
            self.assertEqual(foreteller.update(screen, 1), (1, 0))
            self.assertEqual(whole(foreteller), ((3, 1, 0, False), screen))
            foreteller = pressed(cursor_at(0, 1, "x"), "a", "b", "c")
            screen = look(rows, columns, "x")
            self.assertEqual(foreteller.update(screen, 0), (0, 0))
            self.assertEqual(whole(foreteller), ((3, 0, 0, False), screen))

    def test_a_cell_beyond_the_new_screen_is_wrong(self):
        foreteller = pressed(cursor_at(2, 3, "x"), "a", "b")
        self.assertEqual(foreteller.update(look(3, 4, at(2, 3) + "a"), 2), (1, 1))
        foreteller = pressed(cursor_at(2, 3, "x"), "a", "b")
        self.assertEqual(foreteller.update(look(2, 8, at(1, 3) + "ab"), 2), (0, 2))
        foreteller = pressed(cursor_at(1, 3, "x"), "a", "b")
        self.assertEqual(foreteller.update(look(2, 8, at(1, 3) + "ab"), 2), (2, 0))

    def test_a_right_half_is_wrong(self):
        self.assertEqual(self.foreteller.update(cursor_at(0, 4, "x\xc4b"), 2), (1, 1))

    def test_a_wide_character_is_wrong(self):
        self.assertEqual(self.foreteller.update(cursor_at(0, 3, "xy\xc4"), 1), (0, 1))

    def test_the_place_counts(self):
        foreteller = pressed(cursor_at(1, 2), "a")
        self.assertEqual(foreteller.update(cursor_at(1, 3, at(0, 2) + "a"), 1), (0, 1))
        foreteller = pressed(cursor_at(1, 2), "a")
        self.assertEqual(foreteller.update(cursor_at(1, 3, at(1, 1) + "a"), 1), (0, 1))

    def test_dropped_foretellings_are_never_decided(self):
        self.foreteller.update(cursor_at(2, 2), 0)
        self.assertEqual(self.foreteller.update(cursor_at(0, 5, "xyabc"), 3), (0, 0))
        self.assertEqual(self.foreteller.numbers(), (3, 3, 0, True))

    def test_foretellings_go_on_from_the_new_screen(self):
        self.foreteller.update(cursor_at(0, 5, "xyabc"), 3)
        self.foreteller.update(cursor_at(2, 6), 3)
        press(self.foreteller, "d")
        self.shows(self.foreteller, cursor_at(2, 7, at(2, 6) + "\x1b[4md"))
        press(self.foreteller, "e")
        self.assertEqual(self.foreteller.numbers(), (5, 3, 1, False))


class TestTwoForetellingsForOneCell(ForetellingCase):
    def test_both_decided_at_once(self):
        foreteller = pressed(BLANK, "a", "back", "b")
        self.assertEqual(foreteller.update(look(3, 8, "b"), 3), (3, 0))
        foreteller = pressed(BLANK, "a", "back")
        self.assertEqual(foreteller.update(BLANK, 2), (2, 0))
        foreteller = pressed(BLANK, "a", "back", "b")
        self.assertEqual(foreteller.update(look(3, 8, "a"), 3), (0, 3))

    def test_decided_one_after_the_other(self):
        foreteller = pressed(BLANK, "a", "back", "b")
        self.assertEqual(foreteller.update(look(3, 8, "a"), 1), (1, 0))
        self.assertEqual(foreteller.update(BLANK, 2), (1, 0))
        self.assertEqual(foreteller.update(look(3, 8, "b"), 3), (1, 0))

    def test_only_those_that_are_decided_now_count(self):
        foreteller = pressed(BLANK, "a", "back", "b")
        self.assertEqual(foreteller.update(look(3, 8, "b"), 1), (0, 1))
        foreteller = pressed(BLANK, "a", "back", "b")
        self.assertEqual(foreteller.update(look(3, 8, "b\r"), 2), (0, 2))

    def test_others_beside_them(self):
        foreteller = pressed(BLANK, "a", "b", "back", "c")
        self.assertEqual(foreteller.update(look(3, 8, "xc"), 4), (3, 1))
        foreteller = pressed(BLANK, "a", "b", "back", "c")
        self.assertEqual(foreteller.update(look(3, 8, "ab"), 4), (1, 3))


class TestRefusals(ForetellingCase):
    def test_an_echo_that_decreases(self):
        foreteller = pressed(BLANK, "a", "b", "c")
        foreteller.update(look(3, 8, "ab"), 2)
        for echo in (0, 1):
            self.refused(foreteller, "echo must not decrease", BLANK, echo)
        self.assertEqual(foreteller.update(look(3, 8, "ab"), 2), (0, 0))

    def test_an_unknown_key(self):
        foreteller = Foreteller(BLANK)
        self.refused(foreteller, "unknown key", NEW, 1)
        foreteller = pressed(BLANK, "a", "b", "c")
        for echo in (4, 5, 1000):
            self.refused(foreteller, "unknown key", NEW, echo)
        self.assertEqual(foreteller.update(look(3, 8, "abc"), 3), (3, 0))
        self.refused(foreteller, "unknown key", look(3, 8, "abc"), 4)


class TestOwnership(unittest.TestCase):
    def test_foretellers_share_nothing(self):
        first, second = Foreteller(BLANK), Foreteller(BLANK)
        first.press(97)
        self.assertEqual(whole(second), ((0, 0, 0, True), BLANK))

    def test_looking_changes_nothing(self):
        foreteller = pressed(BLANK, "a", "b")
        self.assertEqual(whole(foreteller), whole(foreteller))

    def test_what_is_handed_in_stays(self):
        screen = look(3, 8, "x\xc4")
        foreteller = pressed(screen, "back", "a")
        foreteller.update(screen, 1)
        self.assertEqual(screen, look(3, 8, "x\xc4"))
