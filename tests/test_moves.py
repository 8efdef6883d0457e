"""Point 22: sequences that only move the cursor."""

import unittest

from tests.helpers import CSI, ESC, at, cursor, filled, made, pending

ROWS, COLUMNS = 6, 20
STOPS = (3, 8, 16)
COUNTS = {"": 1, "0": 1, "1": 1, "2": 2, "3": 3, "5": 5, "6": 6, "7": 7, "19": 19, "20": 20, "21": 21, "9999": 9999,
          ";7": 1, "0;7": 1, "2;9": 2, "2;;;": 2}
MARGINS = {"": (0, 5), CSI + "2;4r": (1, 3), CSI + "1;3r": (0, 2), CSI + "3;6r": (2, 5), CSI + "4;5r": (3, 4)}
PLACES = [(row, column) for row in range(ROWS) for column in (0, 1, 3, 8, 12, 16, 18, 19)]


def placed(row, column, before=""):
    """A terminal with its cursor in a cell, which can be outside of the margins with origin on."""
    first = CSI + "3g" + "".join(at(0, stop) + ESC + "H" for stop in STOPS)
    return made(ROWS, COLUMNS, first + at(row, column) + ESC + "7" + before + ESC + "8")


def clamped(row, column):
    return max(0, min(ROWS - 1, row)), max(0, min(COLUMNS - 1, column))


def stop_right(column):
    return min([stop for stop in STOPS if stop > column], default=COLUMNS - 1)


def stop_left(column):
    return max([stop for stop in STOPS if stop < column], default=0)


class TestMoves(unittest.TestCase):
    def each(self, finals, wanted, parameters=COUNTS):
        """wanted(row, column, n, top, bottom, origin) is the cell where the cursor has to be."""
        for margins, (top, bottom) in MARGINS.items():
            for origin in (False, True):
                before = margins + (CSI + "?6h" if origin else "")
                for row, column in PLACES:
                    for numbers, n in parameters.items():
                        for final in finals:
                            terminal = placed(row, column, before)
                            self.assertEqual(cursor(terminal), (row, column))
                            terminal.write([ord(sign) for sign in CSI + numbers + final])
                            place = wanted(row, column, n, top, bottom, origin)
                            self.assertEqual(cursor(terminal), place, (final, numbers, row, column, before))

    def up(self, row, column, n, top, bottom, origin):
        return (max(top, row - n) if row >= top else max(0, row - n)), column

    def down(self, row, column, n, top, bottom, origin):
        return (min(bottom, row + n) if row <= bottom else min(ROWS - 1, row + n)), column

    def test_up(self):
        self.each("A", self.up)

    def test_down(self):
        self.each("Be", self.down)

    def test_right(self):
        self.each("Ca", lambda row, column, n, *_: clamped(row, column + n))

    def test_left(self):
        self.each("D", lambda row, column, n, *_: clamped(row, column - n))

    def test_down_to_the_beginning(self):
        self.each("E", lambda row, *rest: (self.down(row, *rest)[0], 0))

    def test_up_to_the_beginning(self):
        self.each("F", lambda row, *rest: (self.up(row, *rest)[0], 0))

    def test_to_a_column(self):
        self.each("G`", lambda row, column, n, *_: clamped(row, n - 1))

    def line(self, n, top, bottom, origin):
        return max(top, min(bottom, top + n - 1)) if origin else min(ROWS - 1, n - 1)

    def test_to_a_line(self):
        self.each("d", lambda row, column, *rest: (self.line(*rest), column))

    def test_to_a_cell(self):
        cells = {"": (1, 1), ";": (1, 1), "0;0": (1, 1), "3": (3, 1), "3;": (3, 1), ";5": (1, 5), "2;4": (2, 4),
                 "6;20": (6, 20), "7;21": (7, 21), "9999;9999": (9999, 9999), "4;0": (4, 1), "0;9": (1, 9), "2;3;4": (2, 3)}
        self.each("Hf", lambda row, column, n, *rest: (self.line(n[0], *rest), min(COLUMNS, n[1]) - 1), cells)

    def test_tab_right(self):
        def wanted(row, column, n, *_):
            for _ in range(min(n, 50)):
                column = stop_right(column)
            return row, column
        self.each("I", wanted)

    def test_tab_left(self):
        def wanted(row, column, n, *_):
            for _ in range(min(n, 50)):
                column = stop_left(column)
            return row, column
        self.each("Z", wanted)

    def test_tabs_with_a_stop_in_each_column(self):
        every = "".join(at(0, column) + ESC + "H" for column in range(40))
        self.assertEqual(cursor(made(1, 40, every + at(0, 0) + CSI + "39I")), (0, 39))
        self.assertEqual(cursor(made(1, 40, every + at(0, 0) + CSI + "38I")), (0, 38))
        self.assertEqual(cursor(made(1, 40, every + at(0, 39) + CSI + "39Z")), (0, 0))
        self.assertEqual(cursor(made(1, 40, every + at(0, 39) + CSI + "38Z")), (0, 1))

    def test_tabs_without_stops(self):
        self.assertEqual(cursor(made(2, 20, CSI + "3g" + at(1, 5) + CSI + "I")), (1, 19))
        self.assertEqual(cursor(made(2, 20, CSI + "3g" + at(1, 5) + CSI + "Z")), (1, 0))

    def test_after_each_no_new_line_is_pending(self):
        for final in "ABeCaDEFG`dHfIZ":
            terminal = made(3, 4, "abcd" + CSI + final)
            self.assertIs(pending(terminal), False, final)

    def test_the_screen_stays(self):
        for final in "ABeCaDEFG`dHfIZ":
            for numbers in ("", "2", "99"):
                terminal = filled(3, 6, CSI + numbers + final)
                self.assertEqual(terminal.screen()[0], filled(3, 6).screen()[0])
                self.assertEqual(terminal.history(), [])
                modes, before = terminal.modes(), filled(3, 6).modes()
                self.assertEqual({**modes, "pending": True}, before)
