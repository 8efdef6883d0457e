"""Points 17 to 19: going down and up, printing, controls."""

import unittest

from fardesk.lines import blank_line
from tests.helpers import (
    CSI, ESC, at, cursor, everything, filled, filled_picture, made, past, pending, picture, text,
)

BLANK4 = " " * 4


class TestGoingDown(unittest.TestCase):
    def test_every_line_with_and_without_margins(self):
        before = filled_picture(5, 4)
        for margins, top, bottom in (("", 0, 4), (CSI + "2;4r", 1, 3), (CSI + "1;3r", 0, 2), (CSI + "3;5r", 2, 4)):
            for row in range(5):
                for column in (0, 2):
                    terminal = filled(5, 4, margins + at(row, column) + "\n")
                    wanted = list(before)
                    if row == bottom:
                        wanted[top:bottom + 1] = before[top + 1:bottom + 1] + [BLANK4]
                        self.assertEqual(cursor(terminal), (row, column))
                    else:
                        self.assertEqual(cursor(terminal), (min(row + 1, 4), column))
                    self.assertEqual(picture(terminal), wanted, (margins, row))
                    left = before[:1] if row == bottom and top == 0 else []
                    self.assertEqual(past(terminal), left, (margins, row))

    def test_the_new_line_is_blank_in_any_style(self):
        terminal = filled(2, 4, CSI + "7;44m\n")
        self.assertEqual(terminal.screen()[0][1], blank_line(4))

    def test_one_line(self):
        terminal = made(1, 4, "ab\n\n")
        self.assertEqual((picture(terminal), cursor(terminal)), ([BLANK4], (0, 2)))
        self.assertEqual(past(terminal), ["ab  ", BLANK4])


class TestGoingUp(unittest.TestCase):
    def test_every_line_with_and_without_margins(self):
        before = filled_picture(5, 4)
        for margins, top, bottom in (("", 0, 4), (CSI + "2;4r", 1, 3), (CSI + "1;3r", 0, 2), (CSI + "3;5r", 2, 4)):
            for row in range(5):
                terminal = filled(5, 4, margins + at(row, 2) + ESC + "M")
                wanted = list(before)
                if row == top:
                    wanted[top:bottom + 1] = [BLANK4] + before[top:bottom]
                    self.assertEqual(cursor(terminal), (row, 2))
                else:
                    self.assertEqual(cursor(terminal), (max(row - 1, 0), 2))
                self.assertEqual(picture(terminal), wanted, (margins, row))
                self.assertEqual(past(terminal), [])


class TestPrinting(unittest.TestCase):
    def test_cells_have_the_style_of_the_terminal(self):
        terminal = made(1, 6, "a" + CSI + "1;44m\xc4" + CSI + "22mb")
        cells = ((97, ()), (196, (1, 44)), (0, (1, 44)), (98, (44,)), (32, ()), (32, ()))
        self.assertEqual(terminal.screen()[0], (cells,))
        self.assertEqual(cursor(terminal), (0, 4))

    def test_every_character(self):
        for character in range(32, 256):
            if 127 <= character < 160:
                continue
            terminal = made(1, 4, chr(character))
            width = 2 if character >= 192 else 1
            wanted = chr(character) + "~" * (width - 1)
            self.assertEqual(picture(terminal), [wanted.ljust(4)], character)
            self.assertEqual(cursor(terminal), (0, width))

    def test_narrow_in_the_last_column(self):
        terminal = made(2, 4, "abcd")
        self.assertEqual((picture(terminal), cursor(terminal), pending(terminal)), (["abcd", BLANK4], (0, 3), True))
        terminal.write(text("e"))
        self.assertEqual((picture(terminal), cursor(terminal), pending(terminal)), (["abcd", "e   "], (1, 1), False))

    def test_narrow_before_the_last_column(self):
        terminal = made(2, 4, "abc")
        self.assertEqual((cursor(terminal), pending(terminal)), ((0, 3), False))

    def test_narrow_in_the_last_column_without_wrapping(self):
        terminal = made(2, 4, CSI + "?7labcd")
        self.assertEqual((cursor(terminal), pending(terminal)), ((0, 3), False))
        terminal.write(text("ef"))
        self.assertEqual((picture(terminal), cursor(terminal), pending(terminal)), (["abcf", BLANK4], (0, 3), False))

    def test_wide_that_ends_in_the_last_column(self):
        for mode, wrapping in (("", True), (CSI + "?7l", False)):
            terminal = made(2, 4, mode + "ab\xc4")
            self.assertEqual((picture(terminal), cursor(terminal)), (["ab\xc4~", BLANK4], (0, 3)))
            self.assertIs(pending(terminal), wrapping)

    def test_wide_in_the_last_column(self):
        terminal = made(2, 4, "abc\xc4")
        self.assertEqual((picture(terminal), cursor(terminal), pending(terminal)), (["abc ", "\xc4~  "], (1, 2), False))

    def test_wide_in_the_last_column_without_wrapping(self):
        terminal = made(2, 4, CSI + "?7labc")
        before = everything(terminal)
        terminal.write(text("\xc4"))
        self.assertEqual(everything(terminal), before)
        terminal.write(text("d"))
        self.assertEqual(picture(terminal), ["abcd", BLANK4])

    def test_wide_in_the_last_column_without_wrapping_and_inserting(self):
        terminal = made(1, 4, "abcd" + CSI + "?7l" + CSI + "4h" + at(0, 3) + "\xc4")
        self.assertEqual((picture(terminal), cursor(terminal)), (["abcd"], (0, 3)))

    def test_wide_while_a_new_line_is_pending(self):
        terminal = made(2, 4, "abcd\xc4")
        self.assertEqual((picture(terminal), cursor(terminal)), (["abcd", "\xc4~  "], (1, 2)))

    def test_wide_with_two_columns(self):
        terminal = made(2, 2, "\xc4")
        self.assertEqual((picture(terminal), cursor(terminal), pending(terminal)), (["\xc4~", "  "], (0, 1), True))
        terminal.write(text("\xc5a"))
        self.assertEqual((picture(terminal), cursor(terminal)), (["\xc5~", "a "], (1, 1)))
        self.assertEqual(past(terminal), ["\xc4~"])

    def test_a_pending_new_line_scrolls_in_the_bottom_line(self):
        terminal = filled(2, 4)
        self.assertIs(pending(terminal), True)
        terminal.write(text("x"))
        self.assertEqual((picture(terminal), past(terminal)), (["4567", "x   "], ["0123"]))

    def test_a_pending_new_line_below_the_margins(self):
        terminal = filled(4, 4, CSI + "1;2r" + at(3, 3) + "xy")
        self.assertEqual(picture(terminal), ["0123", "4567", "89:;", "y=>x"])
        self.assertEqual((cursor(terminal), past(terminal)), ((3, 1), []))

    def test_a_pending_new_line_at_the_bottom_margin(self):
        terminal = filled(4, 4, CSI + "2;3r" + at(2, 3) + "xy")
        self.assertEqual(picture(terminal), ["0123", "89:x", "y   ", "<=>?"])

    def test_wide_characters_are_cut(self):
        terminal = made(1, 6, "\xc4\xc5\xc6" + at(0, 1) + "a" + at(0, 3) + "\xc7")
        self.assertEqual(picture(terminal), [" a \xc7~ "])

    def test_inserting(self):
        terminal = made(1, 6, "abcdef" + CSI + "4h" + at(0, 1) + "x")
        self.assertEqual((picture(terminal), cursor(terminal)), (["axbcde"], (0, 2)))
        terminal.write(text("\xc4"))
        self.assertEqual((picture(terminal), cursor(terminal)), (["ax\xc4~bc"], (0, 4)))
        terminal.write(text(at(0, 3) + "y"))
        self.assertEqual(picture(terminal), ["ax y b"])

    def test_inserting_in_the_last_columns(self):
        terminal = made(2, 4, "abcd" + CSI + "4h" + at(0, 3) + "x")
        self.assertEqual((picture(terminal), cursor(terminal), pending(terminal)), (["abcx", BLANK4], (0, 3), True))
        terminal = made(2, 4, "abcd" + CSI + "4h" + at(0, 2) + "\xc4")
        self.assertEqual((picture(terminal), pending(terminal)), (["ab\xc4~", BLANK4], True))
        terminal = made(2, 4, "abcd\refgh" + CSI + "4h" + at(0, 3) + "\xc4")
        self.assertEqual(picture(terminal), ["efgh", "\xc4~  "])

    def test_inserting_cuts_a_wide_character_at_the_end(self):
        terminal = made(1, 4, "ab\xc4" + CSI + "4h" + at(0, 0) + "x")
        self.assertEqual(picture(terminal), ["xab "])


class TestControls(unittest.TestCase):
    def test_8(self):
        for column, wanted in ((0, 0), (1, 0), (5, 4), (7, 6)):
            self.assertEqual(cursor(made(2, 8, at(1, column) + "\x08")), (1, wanted))

    def test_9(self):
        for column in range(20):
            wanted = 8 if column < 8 else 16 if column < 16 else 19
            self.assertEqual(cursor(made(2, 20, at(1, column) + "\t")), (1, wanted), column)

    def test_9_with_other_stops(self):
        terminal = made(1, 20, CSI + "3g" + at(0, 3) + ESC + "H" + "\r")
        stops = []
        for _ in range(3):
            terminal.write([9])
            stops.append(cursor(terminal)[1])
        self.assertEqual(stops, [3, 19, 19])

    def test_10_11_and_12(self):
        for control in "\n\x0b\x0c":
            self.assertEqual(cursor(made(3, 8, at(0, 5) + control)), (1, 5))
            terminal = filled(2, 4, at(1, 1) + control)
            self.assertEqual((picture(terminal), cursor(terminal), past(terminal)),
                             (["4567", BLANK4], (1, 1), ["0123"]))

    def test_13(self):
        for column in (0, 3, 7):
            self.assertEqual(cursor(made(2, 8, at(1, column) + "\r")), (1, 0))

    def test_after_these_no_new_line_is_pending(self):
        for control, place in (("\x08", (0, 2)), ("\t", (0, 3)), ("\n", (1, 3)), ("\x0b", (1, 3)), ("\x0c", (1, 3)),
                               ("\r", (0, 0))):
            terminal = made(2, 4, "abcd" + control)
            self.assertEqual((cursor(terminal), pending(terminal)), (place, False), control)

    def test_all_others_have_no_effect(self):
        others = [control for control in range(32) if control not in (8, 9, 10, 11, 12, 13, 27)]
        for control in others + list(range(127, 160)):
            for string in ("abcd", "ab"):
                terminal = made(2, 4, string)
                before = everything(terminal)
                self.assertEqual(terminal.write([control]), [])
                self.assertEqual(everything(terminal), before, control)
