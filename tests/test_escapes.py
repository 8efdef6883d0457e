"""Points 20 and 21: escapes, commands."""

import unittest

from fardesk.lines import blank_line
from tests.helpers import (
    CSI, ESC, at, cursor, everything, filled, filled_picture, made, past, pending, picture, text,
)

EFFECTIVE = "78DEMHc"


def after(terminal, string):
    terminal.write(text(string))
    return terminal


class TestEscapes(unittest.TestCase):
    def test_7_saves_cursor_and_style(self):
        terminal = made(3, 8, CSI + "1;44m" + at(1, 5) + ESC + "7")
        self.assertEqual(terminal.modes()["saved"], ((1, 5), (1, 44)))
        self.assertEqual((cursor(terminal), terminal.modes()["style"]), ((1, 5), (1, 44)))

    def test_8_restores_them(self):
        terminal = made(3, 8, CSI + "1;44m" + at(1, 5) + ESC + "7" + CSI + "0;7m" + at(0, 1))
        for _ in range(2):
            after(terminal, at(2, 2) + CSI + "4m" + ESC + "8")
            self.assertEqual((cursor(terminal), terminal.modes()["style"]), ((1, 5), (1, 44)))
            self.assertEqual(terminal.modes()["saved"], ((1, 5), (1, 44)))

    def test_8_when_nothing_was_saved(self):
        terminal = made(3, 8, CSI + "7m" + at(2, 2) + ESC + "8")
        self.assertEqual((cursor(terminal), terminal.modes()["style"]), ((0, 0), ()))

    def test_8_goes_to_the_nearest_cell_of_the_screen(self):
        for rows, columns, place in ((2, 8, (1, 6)), (4, 3, (3, 2)), (2, 3, (1, 2)), (5, 9, (3, 6))):
            terminal = made(4, 8, at(3, 6) + ESC + "7" + at(0, 0))
            terminal.resize(rows, columns)
            self.assertEqual(cursor(after(terminal, ESC + "8")), place)
            self.assertEqual(terminal.modes()["saved"], ((3, 6), ()))

    def test_8_leaves_the_margins_and_modes_alone(self):
        terminal = made(4, 8, at(3, 6) + ESC + "7" + CSI + "1;2r" + CSI + "?6h" + CSI + "4h" + ESC + "8")
        self.assertEqual(cursor(terminal), (3, 6))
        modes = terminal.modes()
        self.assertEqual((modes["margins"], modes["origin"], modes["inserting"]), ((0, 1), True, True))

    def test_d_e_and_m(self):
        self.assertEqual(cursor(made(3, 8, at(1, 4) + ESC + "D")), (2, 4))
        self.assertEqual(cursor(made(3, 8, at(1, 4) + ESC + "E")), (2, 0))
        self.assertEqual(cursor(made(3, 8, at(1, 4) + ESC + "M")), (0, 4))

    def test_d_e_and_m_at_the_margins(self):
        for escape, column in (("D", 2), ("E", 0)):
            terminal = filled(3, 4, at(2, 2) + ESC + escape)
            self.assertEqual((picture(terminal), cursor(terminal)), (["4567", "89:;", "    "], (2, column)))
            self.assertEqual(past(terminal), ["0123"])
        terminal = filled(3, 4, at(0, 2) + ESC + "M")
        self.assertEqual((picture(terminal), cursor(terminal)), (["    ", "0123", "4567"], (0, 2)))

    def test_h(self):
        for column in (0, 5, 8, 19):
            terminal = made(2, 20, at(1, column) + ESC + "H")
            self.assertEqual(terminal.modes()["stops"], tuple(sorted({8, 16, column})))
            self.assertEqual(cursor(terminal), (1, column))

    def test_c_makes_everything_as_at_first(self):
        strings = ("\xc4b\r\n\n\n\n", CSI + "1m", CSI + "2;3r", CSI + "?7l", CSI + "4h", CSI + "?6h", CSI + "?2004h",
                   CSI + "?1h", "x" * 20, CSI + "3g", ESC + "H", at(2, 2) + CSI + "7m" + ESC + "7", CSI + "?1049h",
                   ESC + "]0;title\x07", CSI + "?25l", at(2, 2))
        for string in strings + ("".join(strings),):
            terminal = made(3, 20, string + ESC + "c")
            self.assertEqual(everything(terminal), everything(made(3, 20)), string)

    def test_c_empties_both_screens_and_keeps_the_size(self):
        terminal = filled(3, 8, CSI + "?1049h" + "abc" + ESC + "c" + CSI + "?1049l")
        self.assertEqual(terminal.screen(), made(3, 8).screen())
        terminal = made(3, 8, "abc")
        terminal.resize(2, 20)
        terminal.write(text(ESC + "c"))
        self.assertEqual(everything(terminal), everything(made(2, 20)))

    def test_what_becomes_of_a_pending_new_line(self):
        for escape, place in (("8", (0, 0)), ("D", (1, 3)), ("E", (1, 0)), ("M", (0, 3)), ("c", (0, 0))):
            terminal = made(2, 4, "abcd" + ESC + escape)
            self.assertEqual((cursor(terminal), pending(terminal)), (place, False), escape)
        for escape in "7H":
            terminal = made(2, 4, "abcd" + ESC + escape)
            self.assertEqual((cursor(terminal), pending(terminal)), ((0, 3), True), escape)

    def test_7_and_h_do_not_make_a_new_line_pending(self):
        for escape in "7H":
            self.assertIs(pending(made(2, 4, "abc" + ESC + escape)), False)

    def test_the_others_have_no_effect(self):
        for character in range(48, 256):
            if chr(character) in EFFECTIVE + "[]":
                continue
            for string in ("abcd", "ab" + CSI + "7m"):
                terminal = made(2, 4, string)
                before = everything(terminal)
                terminal.write([27, character])
                self.assertEqual(everything(terminal), before, character)

    def test_escapes_with_more_parts_have_no_effect(self):
        for string in ("(c", "#8", " D", "/(E"):
            terminal = made(2, 4, "abcd")
            before = everything(terminal)
            self.assertEqual(everything(after(terminal, ESC + string)), before)


class TestCommands(unittest.TestCase):
    def title(self, command, end="\x07"):
        return made(2, 4, ESC + "]" + command + end).screen()[3]

    def test_titles(self):
        for number in "02":
            for end in ("\x07", ESC + "\\"):
                self.assertEqual(self.title(number + ";", end), ())
                self.assertEqual(self.title(number + ";a", end), (97,))
                self.assertEqual(self.title(number + ";a \xc4;b", end), (97, 32, 196, 59, 98))
                for length in (39, 40, 41, 60):
                    name = "".join(chr(65 + place % 50) for place in range(length))
                    self.assertEqual(self.title(number + ";" + name, end), tuple(text(name[:40])))

    def test_another_title_takes_its_place(self):
        terminal = made(2, 4, ESC + "]0;one\x07" + ESC + "]2;two\x07")
        self.assertEqual(terminal.screen()[3], tuple(text("two")))
        self.assertEqual(after(terminal, ESC + "]2;\x07").screen()[3], ())

    def test_control_characters_never_get_into_it(self):
        self.assertEqual(self.title("0;a\nb\x7f\x80\x9f\x01c"), tuple(text("abc")))

    def test_other_commands_have_no_effect(self):
        for command in ("", "0", "2", "1;a", "3;a", ";a", "0a", "2:a", "02;a", "20;a", " 0;a", "a;0;", "4;0;red"):
            terminal = made(2, 4, "abcd" + ESC + "]0;old\x07")
            before = everything(terminal)
            self.assertEqual(everything(after(terminal, ESC + "]" + command + "\x07")), before, command)

    def test_commands_that_are_broken_off_have_no_effect(self):
        for end in ("\x18", "\x1a", ESC + "\x18", ESC + ESC + "\x18", ESC + "="):
            terminal = made(2, 4, "abcd")
            before = everything(terminal)
            self.assertEqual(everything(after(terminal, ESC + "]0;new" + end)), before, end)

    def test_a_pending_new_line_stays_pending(self):
        terminal = made(2, 4, "abcd" + ESC + "]0;a\x07")
        self.assertEqual((pending(terminal), cursor(terminal)), (True, (0, 3)))
        self.assertIs(pending(made(2, 4, "abc" + ESC + "]0;a\x07")), False)

    def test_a_title_changes_nothing_else(self):
        terminal = filled(2, 4)
        after(terminal, ESC + "]2;a\x07")
        self.assertEqual(picture(terminal), filled_picture(2, 4))
        self.assertEqual(made(2, 4, ESC + "]2;a\x07").screen()[0], (blank_line(4),) * 2)
