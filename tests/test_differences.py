import unittest

from fardesk.characters import codes, kind_of
from fardesk.differences import applied, difference, differing_columns
from fardesk.lines import blank_line, is_line
from fardesk.screens import blank_screen, is_screen, resized
from fardesk.terminals import showing
from tests.drawing import chances, drawn_screen, drawn_size, neighbour
from tests.helpers import CSI, ESC, at, look, made, string_of, text

BELL = "\x07"
K = CSI + "K"
PLAIN = CSI + "0m"


def diff(old, new):
    """The difference as a string."""
    return string_of(difference(old, new))


def with_cursor(screen, row, column):
    lines, _, visible, title = screen
    return lines, (row, column), visible, title


def with_title(screen, title):
    lines, cursor, visible, _ = screen
    return lines, cursor, visible, tuple(codes(title))


def hidden(screen):
    lines, cursor, _, title = screen
    return lines, cursor, False, title


def line_screen(string):
    """A screen with one line of 10 cells, the cursor at its beginning."""
    return look(1, 10, string + "\r")


class TestExample(unittest.TestCase):
    def test_letter_by_letter(self):
        new = look(2, 8, "ls\r\n" + CSI + "1ma.t" + CSI + "0m")
        expected = ([27] + codes("[1;1Hls") + [27] + codes("[2;1H") + [27] + codes("[0;1ma.t") + [27] + codes("[0m")
                    + [27] + codes("[2;4H"))
        self.assertEqual(difference(blank_screen(2, 8), new), expected)


class TestSinglePieces(unittest.TestCase):
    def test_equal_screens(self):
        for screen in (blank_screen(1, 2), look(3, 8, "ab" + CSI + "7m\xc4" + ESC + "]0;t" + BELL + CSI + "?25l")):
            self.assertEqual(difference(screen, screen), [])

    def test_another_size_alone(self):
        self.assertEqual(diff(blank_screen(2, 8), blank_screen(3, 8)), CSI + "8;3;8t")
        self.assertEqual(diff(blank_screen(2, 8), blank_screen(2, 9)), CSI + "8;2;9t")
        self.assertEqual(diff(blank_screen(12, 40), blank_screen(1, 2)), CSI + "8;1;2t")
        old = look(2, 8, "abc\r\ndef")
        self.assertEqual(diff(old, resized(old, 12, 2)), CSI + "8;12;2t")

    def test_lines_alone(self):
        # Behind a line there is always the cursor.
        self.assertEqual(diff(line_screen(""), line_screen("a")), at(0, 0) + "a" + at(0, 0))

    def test_a_style_that_is_set_last(self):
        new = line_screen(CSI + "7ma")
        self.assertEqual(diff(line_screen(""), new), at(0, 0) + CSI + "0;7ma" + PLAIN + at(0, 0))

    def test_a_title_alone(self):
        blank = blank_screen(2, 8)
        self.assertEqual(diff(blank, with_title(blank, "ab")), ESC + "]2;ab" + BELL + at(0, 0))
        self.assertEqual(diff(with_title(blank, "ab"), with_title(blank, "ac")), ESC + "]2;ac" + BELL + at(0, 0))
        self.assertEqual(diff(with_title(blank, "ab"), blank), ESC + "]2;" + BELL + at(0, 0))
        wide = with_title(blank, "\xc4" * 40)
        self.assertEqual(diff(blank, wide), ESC + "]2;" + "\xc4" * 40 + BELL + at(0, 0))

    def test_visibility_alone(self):
        blank = blank_screen(2, 8)
        self.assertEqual(diff(blank, hidden(blank)), CSI + "?25l" + at(0, 0))
        self.assertEqual(diff(hidden(blank), blank), CSI + "?25h" + at(0, 0))
        self.assertEqual(diff(hidden(blank), hidden(blank)), "")

    def test_the_cursor_alone(self):
        blank = blank_screen(12, 40)
        self.assertEqual(diff(blank, with_cursor(blank, 0, 1)), CSI + "1;2H")
        self.assertEqual(diff(blank, with_cursor(blank, 1, 0)), CSI + "2;1H")
        self.assertEqual(diff(with_cursor(blank, 3, 4), with_cursor(blank, 11, 39)), CSI + "12;40H")
        self.assertEqual(diff(with_cursor(blank, 3, 4), blank), CSI + "1;1H")

    def test_all_of_them(self):
        old = with_title(look(3, 8, "abc"), "x")
        new = hidden(with_title(with_cursor(look(2, 9, "abd\r\n" + CSI + "1;31mx"), 1, 5), "yz"))
        self.assertEqual(diff(old, new), "".join((
            CSI + "8;2;9t", at(0, 2) + "d", at(1, 0) + CSI + "0;1;31mx", PLAIN,
            ESC + "]2;yz" + BELL, CSI + "?25l", at(1, 5),
        )))


class TestSizes(unittest.TestCase):
    def test_cells_that_are_lost_do_not_differ(self):
        old = look(3, 8, "abcdefgh\r\nij\r\nkl")
        self.assertEqual(diff(old, look(1, 4, "abcd" + at(0, 2))), CSI + "8;1;4t")
        self.assertEqual(diff(old, look(1, 4, "abcd" + at(0, 1))), CSI + "8;1;4t" + at(0, 1))

    def test_cells_that_differ_then(self):
        old = look(1, 8, "abcdefgh" + at(0, 0))
        new = look(2, 10, "abcdefgh" + at(1, 1) + "x" + at(0, 0))
        self.assertEqual(diff(old, new), CSI + "8;2;10t" + at(1, 1) + "x" + at(0, 0))

    def test_a_wide_character_that_is_cut(self):
        old = look(1, 4, "ab\xc4" + at(0, 0))
        self.assertEqual(diff(old, look(1, 3, "ab")), CSI + "8;1;3t" + at(0, 2))
        self.assertEqual(diff(old, look(1, 3, "abc" + at(0, 0))), CSI + "8;1;3t" + at(0, 2) + "c" + at(0, 0))

    def test_the_cursor_counts_after_it_was_moved(self):
        old = with_cursor(blank_screen(12, 40), 11, 39)
        self.assertEqual(diff(old, with_cursor(blank_screen(3, 5), 2, 4)), CSI + "8;3;5t")
        self.assertEqual(diff(old, with_cursor(blank_screen(3, 5), 2, 3)), CSI + "8;3;5t" + at(2, 3))
        self.assertEqual(diff(blank_screen(3, 5), blank_screen(12, 40)), CSI + "8;12;40t")

    def test_swapped_numbers(self):
        self.assertEqual(diff(blank_screen(2, 12), blank_screen(12, 2)), CSI + "8;12;2t")


class LineCase(unittest.TestCase):
    def line_diff(self, old, new):
        """The difference of two lines of 10 cells without the sequence of the cursor at its end."""
        told = diff(line_screen(old), line_screen(new))
        self.assertTrue(told.endswith(at(0, 0)))
        return told[:-len(at(0, 0))]


class TestColumns(LineCase):
    def test_from_the_first_to_the_last_cell_that_differs(self):
        self.assertEqual(self.line_diff("abcdefghij", "abXdeYghij"), at(0, 2) + "XdeY")
        self.assertEqual(self.line_diff("abcdefghij", "Xbcdefghij"), at(0, 0) + "X")
        self.assertEqual(self.line_diff("abcdefghij", "abcdefghiX"), at(0, 9) + "X")
        self.assertEqual(self.line_diff("abcdefghij", "XbcdefghiX"), at(0, 0) + "XbcdefghiX")

    def test_cells_that_differ_in_their_style_alone(self):
        self.assertEqual(self.line_diff("abc", "a" + CSI + "1mb" + CSI + "mc"), at(0, 1) + CSI + "0;1mb" + PLAIN)

    def test_wide_characters(self):
        self.assertEqual(self.line_diff("abcdefghij", "ab\xc4efghij"), at(0, 2) + "\xc4")
        self.assertEqual(self.line_diff("ab\xc4efghij", "abcdefghij"), at(0, 2) + "cd")
        self.assertEqual(self.line_diff("abcdefgh\xc4", "abcdefghij"), at(0, 8) + "ij")
        self.assertEqual(self.line_diff("abcdefghij", "abcdefgh\xc4"), at(0, 8) + "\xc4")
        self.assertEqual(self.line_diff("a\xc4defghij", "ab\xc4efghij"), at(0, 1) + "b\xc4")
        self.assertEqual(self.line_diff("ab\xc4efghij", "a\xc4defghij"), at(0, 1) + "\xc4d")

    def test_a_right_half_directly_behind_the_last_one(self):
        self.assertEqual(self.line_diff("ab\xc4efghij", "ab\xc5efghij"), at(0, 2) + "\xc5")
        self.assertEqual(self.line_diff("ab\xc4", "ab\xc5"), at(0, 2) + "\xc5")
        self.assertEqual(self.line_diff("abcdefgh\xc4", "abcdefgh\xc5"), at(0, 8) + "\xc5")
        self.assertEqual(self.line_diff("x\xc4", "y\xc5"), at(0, 0) + "y\xc5")

    def test_columns_over_right_halves(self):
        wide = look(1, 10, "ab\xc4ef")[0][0]
        other = look(1, 10, "ab\xc5ef")[0][0]
        self.assertEqual(differing_columns(wide, other), (2, 3))
        self.assertEqual(differing_columns(look(1, 10, "abcdef")[0][0], other), (2, 3))
        self.assertEqual(differing_columns(wide, look(1, 10, "abcdef")[0][0]), (2, 3))
        self.assertEqual(differing_columns(look(1, 4, "ab\xc4")[0][0], look(1, 4, "ab\xc5")[0][0]), (2, 3))

    def test_a_first_one_that_is_a_right_half(self):
        # In lines it is never one, since its wide character differs, too; so here stands what is no line.
        new = ((196, ()), (0, (1,)), (97, ()), (98, ()))
        old = ((196, ()), (0, (4,)), (97, ()), (99, ()))
        self.assertEqual(differing_columns(old, new), (0, 3))

    def test_all_short_lines(self):
        cells = ((32, ()), (97, ()), (97, (1,)), (196, ()), (0, ()), (197, ()), (196, (1,)), (0, (1,)))
        lines = [line for line in ((a, b, c) for a in cells for b in cells for c in cells) if is_line(line)]
        self.assertEqual(len(lines), 45)
        for old in lines:
            for new in lines:
                screen = ((new,), (0, 0), True, ())
                self.assertEqual(applied(((old,), (0, 0), True, ()), difference(((old,), (0, 0), True, ()), screen)),
                                 screen)


class TestEnds(LineCase):
    def test_the_last_one_before_the_end(self):
        self.assertEqual(self.line_diff("abcdef", "aXcdef"), at(0, 1) + "X")
        self.assertEqual(self.line_diff("abcdef", "abcdeX"), at(0, 5) + "X")

    def test_the_last_one_at_the_end(self):
        self.assertEqual(self.line_diff("abcdefg", "abcdef"), at(0, 6) + K)
        self.assertEqual(self.line_diff("abcdefg", "aXcdef"), at(0, 1) + "Xcdef" + K)

    def test_the_last_one_behind_the_end(self):
        self.assertEqual(self.line_diff("abcdefghij", "abcdef"), at(0, 6) + K)
        self.assertEqual(self.line_diff("abcdefghij", "aXcdef"), at(0, 1) + "Xcdef" + K)

    def test_a_first_one_behind_the_end(self):
        self.assertEqual(self.line_diff("abc      x", "abc"), at(0, 9) + K)
        self.assertEqual(self.line_diff("abc  y   x", "abc"), at(0, 5) + K)

    def test_a_blank_line_in_place_of_a_full_one(self):
        self.assertEqual(self.line_diff("abcdefghij", ""), at(0, 0) + K)
        self.assertEqual(self.line_diff("  c", ""), at(0, 2) + K)

    def test_spaces_inside(self):
        self.assertEqual(self.line_diff("abcdef", "a  def"), at(0, 1) + "  ")
        self.assertEqual(self.line_diff("", "  x"), at(0, 2) + "x")

    def test_spaces_with_a_style_are_not_blank(self):
        self.assertEqual(self.line_diff("abcd", "ab" + CSI + "7m  "), at(0, 2) + CSI + "0;7m  " + PLAIN)
        self.assertEqual(self.line_diff("ab" + CSI + "7m  ", "ab"), at(0, 2) + K)

    def test_a_wide_character_at_the_end(self):
        self.assertEqual(self.line_diff("abcdefg", "ab\xc4"), at(0, 2) + "\xc4" + K)
        self.assertEqual(self.line_diff("abcd", "ab\xc4"), at(0, 2) + "\xc4")


class TestStyles(unittest.TestCase):
    def test_several_in_one_line(self):
        new = line_screen("a" + CSI + "1mbc" + CSI + "31md" + CSI + "0me" + CSI + "7mf")
        self.assertEqual(diff(line_screen(""), new), at(0, 0) + "a" + CSI + "0;1mbc" + CSI + "0;1;31md" + PLAIN + "e"
                         + CSI + "0;7mf" + PLAIN + at(0, 0))

    def test_one_over_lines(self):
        new = look(3, 8, CSI + "1ma\r\nb\r\n" + CSI + "0mc" + at(0, 0))
        self.assertEqual(diff(blank_screen(3, 8), new),
                         at(0, 0) + CSI + "0;1ma" + at(1, 0) + "b" + at(2, 0) + PLAIN + "c" + at(0, 0))

    def test_one_that_is_kept_over_a_line_without_characters(self):
        old = look(3, 8, "a\r\nb\r\nc" + at(0, 0))
        new = look(3, 8, CSI + "1mx\r\n\n" + "z" + at(0, 0))
        self.assertEqual(diff(old, new), at(0, 0) + CSI + "0;1mx" + at(1, 0) + K + at(2, 0) + "z" + PLAIN + at(0, 0))

    def test_the_default_one_behind_another_one(self):
        new = line_screen(CSI + "44ma" + CSI + "0mb")
        self.assertEqual(diff(line_screen(""), new), at(0, 0) + CSI + "0;44ma" + PLAIN + "b" + at(0, 0))

    def test_right_halves_set_none(self):
        new = line_screen(CSI + "44m\xc4\xc5" + CSI + "0m")
        self.assertEqual(diff(line_screen(""), new), at(0, 0) + CSI + "0;44m\xc4\xc5" + PLAIN + at(0, 0))

    def test_the_greatest_one(self):
        new = line_screen(CSI + "1;4;7;37;47ma")
        self.assertEqual(diff(line_screen(""), new), at(0, 0) + CSI + "0;1;4;7;37;47ma" + PLAIN + at(0, 0))


class TestDrawnScreens(unittest.TestCase):
    def check(self, old, new):
        told = difference(old, new)
        self.assertTrue(is_screen(old) and is_screen(new))
        terminal = showing(old)
        self.assertEqual(terminal.write(told), [])
        self.assertEqual(terminal.screen(), new)
        self.assertTrue(terminal.is_plain())
        self.assertEqual(terminal.history(), [])
        self.assertEqual(terminal.modes()["saved"], ((0, 0), ()))
        self.assertEqual(applied(old, told), new)
        self.assertLessEqual(len(told), 10000)
        for character in told:
            self.assertTrue(kind_of(character) != "control" or character in (27, 7))
        self.assertEqual(told == [], old == new)

    def test_any_two_screens(self):
        chance = chances(27)
        for _ in range(150):
            self.check(drawn_screen(chance, *drawn_size(chance)), drawn_screen(chance, *drawn_size(chance)))

    def test_neighbours(self):
        chance = chances(28)
        for _ in range(300):
            old = drawn_screen(chance, *drawn_size(chance))
            new = neighbour(chance, old)
            self.check(old, new)
            self.check(new, old)

    def test_the_longest_ones(self):
        styles = ((1, 4, 7, 37, 47), (1, 4, 7, 36, 47))
        lines = tuple(tuple((126, styles[column % 2]) for column in range(40)) for _ in range(12))
        full = (lines, (11, 39), False, (126,) * 40)
        self.check(blank_screen(1, 2), full)
        self.check(blank_screen(12, 40), full)
        self.check(full, blank_screen(12, 40))

    def test_narrowest_screens(self):
        chance = chances(29)
        for _ in range(100):
            rows = chance.randrange(1, 4)
            self.check(drawn_screen(chance, rows, 2), drawn_screen(chance, rows, 2))


class TestTerminalsWithMore(unittest.TestCase):
    def prepared(self, old, more):
        """A plain terminal with a screen and a history, tab stops, something saved, and perhaps more."""
        rows, columns = len(old[0]), len(old[0][0])
        terminal = made(rows, columns, "one\r\ntwo" + "\r\n" * rows + CSI + "3g" + at(0, 1) + ESC + "H" + CSI + "7m"
                        + at(1, 2) + ESC + "7" + CSI + "0m" + CSI + "2J" + CSI + "H" + more)
        terminal.write(difference(terminal.screen(), old))
        self.assertTrue(terminal.is_plain())
        return terminal

    def test_all_is_kept(self):
        chance = chances(30)
        for more in ("", CSI + "?1h"):
            for _ in range(40):
                rows, columns = chance.randrange(3, 13), chance.randrange(3, 41)
                terminal = self.prepared(drawn_screen(chance, rows, columns), more)
                history, modes = terminal.history(), terminal.modes()
                self.assertGreaterEqual(len(history), 2)
                self.assertEqual((modes["stops"], modes["saved"]), ((1,), ((1, 2), (7,))))
                new = drawn_screen(chance, rows, columns)
                self.assertEqual(terminal.write(difference(terminal.screen(), new)), [])
                self.assertEqual(terminal.screen(), new)
                self.assertEqual(terminal.history(), history)
                self.assertEqual(terminal.modes(), modes)

    def test_all_but_tab_stops_with_another_size(self):
        terminal = self.prepared(drawn_screen(chances(31), 4, 10), CSI + "?1h")
        history, modes = terminal.history(), terminal.modes()
        new = drawn_screen(chances(32), 6, 20)
        terminal.write(difference(terminal.screen(), new))
        self.assertEqual(terminal.screen(), new)
        self.assertEqual(terminal.history(), history)
        modes["stops"] = (1, 16)
        modes["margins"] = (0, 5)
        self.assertEqual(terminal.modes(), modes)


class TestOwnership(unittest.TestCase):
    def test_returned_lists_are_the_callers(self):
        blank, new = blank_screen(2, 8), look(2, 8, "ab")
        told = difference(blank, new)
        kept = list(told)
        told.clear()
        self.assertEqual(difference(blank, new), kept)
        nothing = difference(blank, blank)
        nothing.append(1)
        self.assertEqual(difference(blank, blank), [])

    def test_a_text_that_is_applied_stays(self):
        told = text("ab\x1b[7mc")
        screen = applied(blank_screen(2, 8), told)
        self.assertEqual(told, text("ab\x1b[7mc"))
        told.clear()
        self.assertEqual(screen, look(2, 8, "ab\x1b[7mc"))

    def test_sizes_beyond_the_ranges_are_no_errors(self):
        old, new = blank_screen(1, 1), blank_screen(13, 41)
        self.assertEqual(diff(old, new), CSI + "8;13;41t")
        self.assertEqual(diff(new, old), CSI + "8;1;1t")
        self.assertEqual(applied(new, text("a"))[0][0], ((97, ()),) + blank_line(40))
        blank = blank_screen(1, 8)
        self.assertEqual(diff(blank, with_title(blank, "a" * 41)), ESC + "]2;" + "a" * 41 + BELL + at(0, 0))
