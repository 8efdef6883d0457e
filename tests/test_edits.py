"""Point 22: sequences that erase, insert, delete and scroll."""

import unittest

from fardesk.lines import blank_line, deleted, erased, inserted
from tests.helpers import (
    CSI, ESC, at, cursor, filled, filled_picture, made, past, pending, picture, text,
)

ROWS, COLUMNS = 5, 7
BLANK = " " * COLUMNS
COUNTS = {"": 1, "0": 1, "1": 1, "2": 2, "3": 3, "4": 4, "5": 5, "6": 6, "7": 7, "8": 8, "9999": 9999, ";3": 1, "2;9": 2}
MARGINS = {"": (0, 4), CSI + "2;4r": (1, 3), CSI + "1;3r": (0, 2), CSI + "3;5r": (2, 4), CSI + "2;3r": (1, 2)}
PLACES = [(row, column) for row in range(ROWS) for column in range(COLUMNS)]
WIDE = "a\xc4b\xc5c" + at(1, 0) + "\xc6\xc7\xc8d" + at(2, 0) + "e\xc9\xca\xcb" + at(0, 0)


def after(string, row, column, before=""):
    """A filled terminal after a string was written with the cursor in a cell (in any style: blank cells have none)."""
    return filled(ROWS, COLUMNS, CSI + "7;44m" + before + at(row, column) + string)


class TestErasing(unittest.TestCase):
    def line_after(self, line, column, which):
        if which == 0:
            return line[:column] + " " * (COLUMNS - column)
        if which == 1:
            return " " * (column + 1) + line[column + 1:]
        return BLANK if which == 2 else line

    def test_in_the_line(self):
        for numbers, which in {"": 0, "0": 0, ";": 0, ";2": 0, "1": 1, "2": 2, "2;1": 2, "3": 3, "4": 4, "9999": 9}.items():
            for row, column in PLACES:
                terminal = after(CSI + numbers + "K", row, column)
                wanted = filled_picture(ROWS, COLUMNS)
                wanted[row] = self.line_after(wanted[row], column, which)
                self.assertEqual(picture(terminal), wanted, (numbers, row, column))
                self.assertEqual(cursor(terminal), (row, column))

    def test_in_the_screen(self):
        for numbers, which in {"": 0, "0": 0, ";": 0, ";2": 0, "1": 1, "2": 2, "2;1": 2, "4": 4, "9999": 9}.items():
            for margins in ("", CSI + "2;3r"):
                for row, column in PLACES:
                    terminal = after(CSI + numbers + "J", row, column, margins)
                    wanted = filled_picture(ROWS, COLUMNS)
                    wanted[row] = self.line_after(wanted[row], column, which)
                    if which in (1, 2):
                        wanted[:row] = [BLANK] * row
                    if which in (0, 2):
                        wanted[row + 1:] = [BLANK] * (ROWS - row - 1)
                    self.assertEqual(picture(terminal), wanted, (numbers, row, column))
                    self.assertEqual(cursor(terminal), (row, column))
                    self.assertEqual(terminal.history(), [])

    def test_erased_cells_are_blank_in_any_style(self):
        for string in ("2J", "2K", "K"):
            terminal = made(1, 3, CSI + "7mabc\r" + CSI + string)
            self.assertEqual(terminal.screen()[0], (blank_line(3),))

    def test_3_empties_the_history_alone(self):
        terminal = filled(2, 4, "\r\n\n" + "ab")
        before = terminal.screen()
        self.assertEqual(len(terminal.history()), 2)
        terminal.write(text(CSI + "3J"))
        self.assertEqual((terminal.history(), terminal.screen()), ([], before))
        terminal.write(text("\n"))
        self.assertEqual(len(terminal.history()), 1)

    def test_3_empties_the_history_on_the_other_screen_too(self):
        terminal = filled(2, 4, "\r\n" + CSI + "?1049h" + CSI + "3J" + CSI + "?1049l")
        self.assertEqual(terminal.history(), [])

    def test_the_others_leave_the_history_alone(self):
        for number in ("", "0", "1", "2", "4"):
            terminal = filled(2, 4, "\r\n" + CSI + number + "J" + CSI + number + "K")
            self.assertEqual(past(terminal), ["0123"], number)

    def test_the_end_of_a_line(self):
        for row, column in PLACES:
            for numbers, n in COUNTS.items():
                terminal = after(CSI + numbers + "X", row, column)
                wanted = filled_picture(ROWS, COLUMNS)
                kept = wanted[row][column + n:]
                wanted[row] = wanted[row][:column].ljust(COLUMNS - len(kept)) + kept
                self.assertEqual(picture(terminal), wanted, (numbers, row, column))
                self.assertEqual(cursor(terminal), (row, column))


class TestCells(unittest.TestCase):
    def test_inserting(self):
        for row, column in PLACES:
            for numbers, n in COUNTS.items():
                terminal = after(CSI + numbers + "@", row, column)
                wanted = filled_picture(ROWS, COLUMNS)
                wanted[row] = (wanted[row][:column] + " " * min(n, COLUMNS) + wanted[row][column:])[:COLUMNS]
                self.assertEqual(picture(terminal), wanted, (numbers, row, column))
                self.assertEqual(cursor(terminal), (row, column))

    def test_deleting(self):
        for row, column in PLACES:
            for numbers, n in COUNTS.items():
                terminal = after(CSI + numbers + "P", row, column)
                wanted = filled_picture(ROWS, COLUMNS)
                wanted[row] = (wanted[row][:column] + wanted[row][column + n:]).ljust(COLUMNS)
                self.assertEqual(picture(terminal), wanted, (numbers, row, column))
                self.assertEqual(cursor(terminal), (row, column))

    def test_new_cells_are_blank_in_any_style(self):
        for final, wanted in (("@", ((32, ()), (97, (7,)), (98, (7,)))), ("P", ((98, (7,)), (99, (7,)), (32, ()))),
                              ("X", ((32, ()), (98, (7,)), (99, (7,))))):
            terminal = made(1, 3, CSI + "7mabc\r" + CSI + final)
            self.assertEqual(terminal.screen()[0], (wanted,), final)

    def test_wide_characters_are_cut(self):
        lines = made(3, 7, WIDE).screen()[0]
        for row in range(3):
            line = lines[row]
            for column in range(7):
                for n in range(1, 9):
                    wanted = {
                        f"{n}@": inserted(line, column, n), f"{n}P": deleted(line, column, n),
                        f"{n}X": erased(line, column, min(7, column + n)), "K": erased(line, column, 7),
                        "1K": erased(line, 0, column + 1), "J": erased(line, column, 7),
                        "1J": erased(line, 0, column + 1),
                    }
                    for sequence, after_it in wanted.items():
                        terminal = made(3, 7, WIDE + at(row, column) + CSI + sequence)
                        self.assertEqual(terminal.screen()[0][row], after_it, (sequence, row, column))


class TestLines(unittest.TestCase):
    def check(self, final, change):
        """change(part, n) is what becomes of a part of the lines: from that of the cursor to the bottom margin."""
        for margins, (top, bottom) in MARGINS.items():
            for row, column in [(row, column) for row in range(ROWS) for column in (0, 3, 6)]:
                for numbers, n in COUNTS.items():
                    terminal = after(CSI + numbers + final, row, column, margins)
                    wanted = filled_picture(ROWS, COLUMNS)
                    place = (row, column)
                    if top <= row <= bottom:
                        wanted[row:bottom + 1] = change(wanted[row:bottom + 1], n)
                        place = (row, 0)
                    self.assertEqual(picture(terminal), wanted, (numbers, row, margins))
                    self.assertEqual(cursor(terminal), place)
                    self.assertEqual(terminal.history(), [])

    def test_inserting(self):
        self.check("L", lambda part, n: ([BLANK] * min(n, ROWS) + part)[:len(part)])

    def test_deleting(self):
        self.check("M", lambda part, n: (part[n:] + [BLANK] * ROWS)[:len(part)])

    def test_with_origin(self):
        for final in "LM":
            terminal = filled(5, 4, CSI + "2;4r" + CSI + "?6h" + CSI + "2;3H" + CSI + final)
            lines = filled_picture(5, 4)
            wanted = lines[:2] + (["    ", lines[2]] if final == "L" else [lines[3], "    "]) + lines[4:]
            self.assertEqual((picture(terminal), cursor(terminal)), (wanted, (2, 0)))


class TestScrolling(unittest.TestCase):
    def test_up(self):
        for margins, (top, bottom) in MARGINS.items():
            for row, column in ((0, 0), (2, 3), (4, 6)):
                for numbers, n in COUNTS.items():
                    terminal = after(CSI + numbers + "S", row, column, margins)
                    lines = filled_picture(ROWS, COLUMNS)
                    part = lines[top:bottom + 1]
                    wanted = lines[:top] + (part[n:] + [BLANK] * ROWS)[:len(part)] + lines[bottom + 1:]
                    self.assertEqual(picture(terminal), wanted, (numbers, margins))
                    self.assertEqual(cursor(terminal), (row, column))
                    self.assertEqual(past(terminal), part[:n] if top == 0 else [], (numbers, margins))

    def test_down(self):
        for margins, (top, bottom) in MARGINS.items():
            for row, column in ((0, 0), (2, 3), (4, 6)):
                for numbers, n in COUNTS.items():
                    terminal = after(CSI + numbers + "T", row, column, margins)
                    lines = filled_picture(ROWS, COLUMNS)
                    part = lines[top:bottom + 1]
                    wanted = lines[:top] + ([BLANK] * min(n, ROWS) + part)[:len(part)] + lines[bottom + 1:]
                    self.assertEqual(picture(terminal), wanted, (numbers, margins))
                    self.assertEqual(cursor(terminal), (row, column))
                    self.assertEqual(terminal.history(), [])

    def test_new_lines_are_blank_in_any_style(self):
        for final in "STL":
            terminal = made(2, 3, CSI + "7mabc\r\ndef" + at(0, 0) + CSI + "9" + final)
            self.assertEqual(terminal.screen()[0], (blank_line(3),) * 2)

    def test_the_other_screen_has_no_history(self):
        terminal = made(2, 4, CSI + "?1049habcd" + CSI + "S")
        self.assertEqual((terminal.history(), picture(terminal)), ([], ["    "] * 2))


class TestPending(unittest.TestCase):
    def test_after_each_no_new_line_is_pending(self):
        for final in "JK@PXLMST":
            for number in ("", "1", "2", "3", "7", "99"):
                self.assertIs(pending(filled(3, 4, CSI + number + final)), False, (number, final))

    def test_also_without_effect_outside_of_the_margins(self):
        for final in "LM":
            terminal = filled(3, 4, CSI + "1;2r" + at(2, 3) + "x" + CSI + final)
            self.assertEqual((pending(terminal), cursor(terminal)), (False, (2, 3)))

    def test_no_other_modes_change(self):
        before = made(3, 4, "abc" + ESC + "7").modes()
        for final in "JK@PXLMST":
            self.assertEqual(made(3, 4, "abc" + ESC + "7" + CSI + "2" + final).modes(), before, final)
