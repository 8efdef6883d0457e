"""Point 25: resizing by the call and by the sequence."""

import unittest

from fardesk.screens import is_screen, resized
from fardesk.terminals import Terminal
from tests.helpers import CSI, ESC, at, cursor, everything, filled, made, past, pending, picture, text


def by_call(terminal, rows, columns):
    assert terminal.resize(rows, columns) is None


def by_sequence(terminal, rows, columns):
    assert terminal.write(text(f"{CSI}8;{rows};{columns}t")) == []


WAYS = (by_call, by_sequence)


class TestResizing(unittest.TestCase):
    def test_the_screen(self):
        for way in WAYS:
            for size in ((1, 2), (2, 5), (3, 9), (4, 10), (12, 40), (1, 40), (12, 2)):
                for place in ((0, 0), (1, 4), (2, 8)):
                    terminal = filled(3, 9, at(1, 3) + "\xc4" + CSI + "?25l" + ESC + "]0;a\x07" + at(*place))
                    before = terminal.screen()
                    way(terminal, *size)
                    self.assertEqual(terminal.screen(), resized(before, *size))
                    self.assertIs(is_screen(terminal.screen()), True)

    def test_a_wide_character_is_cut(self):
        for way in WAYS:
            terminal = made(1, 6, "ab\xc4c")
            way(terminal, 1, 3)
            self.assertEqual((picture(terminal), cursor(terminal)), (["ab "], (0, 2)))
            way(terminal, 1, 5)
            self.assertEqual((picture(terminal), cursor(terminal)), (["ab   "], (0, 2)))

    def test_margins(self):
        for way in WAYS:
            for rows in (2, 4, 5, 12):
                terminal = made(4, 8, CSI + "2;3r")
                way(terminal, rows, 8)
                self.assertEqual(terminal.modes()["margins"], (0, rows - 1))

    def test_no_new_line_is_pending(self):
        for way in WAYS:
            for size in ((2, 4), (2, 3), (2, 8)):
                terminal = made(2, 4, "abcd")
                way(terminal, *size)
                self.assertEqual((pending(terminal), cursor(terminal)), (False, (0, min(3, size[1] - 1))))

    def test_the_same_size(self):
        for way in WAYS:
            terminal = filled(3, 9, CSI + "2;3r" + CSI + "7m" + ESC + "H" + at(2, 8) + "x")
            before = terminal.screen()
            modes = terminal.modes()
            way(terminal, 3, 9)
            self.assertEqual(terminal.screen(), before)
            self.assertEqual(terminal.modes(), {**modes, "margins": (0, 2), "pending": False})

    def test_tab_stops(self):
        strings = {"": (8, 16), CSI + "3g": (), at(0, 3) + ESC + "H" + at(0, 19) + ESC + "H": (3, 8, 16, 19),
                   at(0, 16) + CSI + "g" + at(0, 0) + ESC + "H": (0, 8)}
        for way in WAYS:
            for string, stops in strings.items():
                for columns in (2, 3, 4, 8, 9, 16, 17, 19, 20, 24, 25, 32, 33, 40):
                    terminal = made(1, 20, string)
                    self.assertEqual(terminal.modes()["stops"], stops)
                    way(terminal, 1, columns)
                    wanted = [stop for stop in stops if stop < columns]
                    wanted += [stop for stop in (24, 32) if stop < columns]
                    self.assertEqual(terminal.modes()["stops"], tuple(wanted), (string, columns))

    def test_tab_stops_that_were_removed_and_come_back(self):
        for way in WAYS:
            terminal = made(1, 20, at(0, 11) + ESC + "H" + at(0, 3) + ESC + "H")
            way(terminal, 1, 8)
            self.assertEqual(terminal.modes()["stops"], (3,))
            way(terminal, 1, 18)
            self.assertEqual(terminal.modes()["stops"], (3, 8, 16))

    def test_the_saved_cursor_stays(self):
        for way in WAYS:
            terminal = made(4, 20, at(3, 15) + CSI + "7m" + ESC + "7")
            way(terminal, 2, 5)
            self.assertEqual(terminal.modes()["saved"], ((3, 15), (7,)))
            way(terminal, 4, 30)
            terminal.write(text(ESC + "8"))
            self.assertEqual(cursor(terminal), (3, 15))

    def test_other_modes_stay(self):
        modes = CSI + "1m" + CSI + "4h" + CSI + "?1;6;2004h" + CSI + "?7l"
        for way in WAYS:
            terminal = made(4, 20, modes)
            before = terminal.modes()
            way(terminal, 3, 20)
            self.assertEqual(terminal.modes(), {**before, "margins": (0, 2)})

    def test_the_screen_that_is_not_current(self):
        for way in WAYS:
            for size in ((1, 3), (2, 4), (3, 6), (1, 6)):
                terminal = made(2, 4, "abc\r\nd\xc4e" + at(1, 3))
                main = terminal.screen()
                terminal.write(text(CSI + "?1049hxyz"))
                way(terminal, *size)
                self.assertEqual([len(line) for line in terminal.screen()[0]], [size[1]] * size[0])
                terminal.write(text(CSI + "?1049l"))
                self.assertEqual(terminal.screen(), resized(main, *size))
                terminal.write(text(CSI + "?1049h"))
                self.assertEqual(picture(terminal), [" " * size[1]] * size[0])

    def test_the_history_stays(self):
        for way in WAYS:
            terminal = filled(2, 4, "\n\n")
            way(terminal, 1, 2)
            self.assertEqual(past(terminal), ["0123", "4567"])

    def test_within_a_sequence_that_is_not_complete(self):
        terminal = made(2, 4, CSI + "2;")
        terminal.resize(3, 8)
        self.assertEqual(terminal.modes()["state"], ("sequence", False, (2, None), False))
        terminal.write(text("5H"))
        self.assertEqual(cursor(terminal), (1, 4))


class TestSequence(unittest.TestCase):
    def size(self, numbers, rows=3, columns=9):
        lines = made(rows, columns, CSI + numbers + "t").screen()[0]
        return len(lines), len(lines[0])

    def test_ranges(self):
        for rows in (1, 2, 11, 12):
            for columns in (2, 3, 39, 40):
                self.assertEqual(self.size(f"8;{rows};{columns}"), (rows, columns))
        for rows, columns in ((0, 5), (13, 5), (9999, 5), (5, 0), (5, 1), (5, 41), (5, 9999), (13, 41), (0, 0)):
            self.assertEqual(self.size(f"8;{rows};{columns}"), (3, 9))

    def test_missing_numbers(self):
        for numbers in ("", "8", "8;", "8;5", "8;5;", "8;;5", "8;;", ";5;5", "0;5;5"):
            self.assertEqual(self.size(numbers), (3, 9), numbers)

    def test_other_first_numbers(self):
        for first in (1, 4, 7, 9, 18, 80):
            self.assertEqual(self.size(f"{first};5;5"), (3, 9))
        self.assertEqual(self.size("1;8;5;5"), (3, 9))

    def test_further_numbers(self):
        self.assertEqual(self.size("8;5;6;7;8"), (5, 6))

    def test_without_effect_nothing_but_the_pending_new_line_changes(self):
        for numbers in ("", "8;13;5", "8;5;41", "7;5;5"):
            terminal = filled(3, 9, CSI + "2;3r" + CSI + "7m" + at(1, 8) + "x")
            screen, modes, _, _ = everything(terminal)
            terminal.write(text(CSI + numbers + "t"))
            self.assertEqual(terminal.screen(), screen)
            self.assertEqual(terminal.modes(), {**modes, "pending": False})

    def test_the_call_with_every_size(self):
        for rows in range(1, 13):
            for columns in range(2, 41):
                terminal = Terminal(3, 9)
                terminal.resize(rows, columns)
                self.assertEqual(everything(terminal), everything(Terminal(rows, columns)))
