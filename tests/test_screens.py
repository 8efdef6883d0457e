import unittest

from fardesk.lines import blank_line, is_line
from fardesk.screens import blank_screen, is_screen, resized, screen_text

B = (32, ())
A = (97, (1,))
W = (196, (7,))
H = (0, (7,))
LINES = ((A, W, H), (B, B, A))


def screen(lines=LINES, cursor=(1, 2), visible=True, title=(97, 196)):
    return lines, cursor, visible, title


class TestBlankScreen(unittest.TestCase):
    def test_blank_screens(self):
        for rows, columns in ((1, 2), (2, 8), (12, 40), (1, 40), (12, 2)):
            wanted = (((32, ()),) * columns,) * rows, (0, 0), True, ()
            self.assertEqual(blank_screen(rows, columns), wanted)
            self.assertIs(is_screen(blank_screen(rows, columns)), True)


class TestIsScreen(unittest.TestCase):
    def test_screens(self):
        for value in (screen(), screen(visible=False), screen(title=()), screen(cursor=(0, 0))):
            self.assertIs(is_screen(value), True, value)

    def test_sizes(self):
        for rows in range(0, 15):
            for columns in (0, 1, 2, 3, 39, 40, 41, 50):
                value = screen(lines=(blank_line(columns),) * rows, cursor=(0, 0))
                wanted = rows in range(1, 13) and columns in range(2, 41)
                self.assertIs(is_screen(value), wanted, (rows, columns))

    def test_lines_of_different_lengths(self):
        for lines in ((blank_line(3), blank_line(4)), (blank_line(4), blank_line(3)),
                      (blank_line(3), blank_line(3), blank_line(2)), (blank_line(3), ())):
            self.assertIs(is_screen(screen(lines=lines, cursor=(0, 0))), False, lines)

    def test_what_is_no_line(self):
        for line in ((A, A, W), (H, A, A), (A, H, A), (A, W, (0, ())), (A, A, (10, ())), (A, A, (97, (4, 1)))):
            self.assertIs(is_screen(screen(lines=(line, LINES[1]))), False, line)
            self.assertIs(is_screen(screen(lines=(LINES[0], line))), False, line)

    def test_cursors(self):
        for row in range(-3, 5):
            for column in range(-3, 6):
                wanted = row in (0, 1) and column in (0, 1, 2)
                self.assertIs(is_screen(screen(cursor=(row, column))), wanted, (row, column))

    def test_a_bool_is_no_whole_number(self):
        self.assertIs(is_screen(screen(cursor=(True, 0))), False)
        self.assertIs(is_screen(screen(cursor=(0, False))), False)
        self.assertIs(is_screen(screen(visible=1)), False)
        self.assertIs(is_screen(screen(title=(True,))), False)

    def test_lengths_of_titles(self):
        for length in range(45):
            self.assertIs(is_screen(screen(title=(97,) * length)), length <= 40, length)
            self.assertIs(is_screen(screen(title=(200,) * length)), length <= 40, length)

    def test_characters_of_titles(self):
        for character in range(256):
            control = character < 32 or 127 <= character < 160
            self.assertIs(is_screen(screen(title=(97, character, 98))), not control, character)
        for character in (-1, 256):
            self.assertIs(is_screen(screen(title=(97, character))), False, character)


class TestResized(unittest.TestCase):
    def test_smaller(self):
        self.assertEqual(resized(screen(), 1, 3), screen(lines=(LINES[0],), cursor=(0, 2)))
        self.assertEqual(resized(screen(), 2, 2), screen(lines=((A, B), (B, B)), cursor=(1, 1)))
        self.assertEqual(resized(screen(cursor=(0, 0)), 1, 2), screen(lines=((A, B),), cursor=(0, 0)))

    def test_the_same(self):
        self.assertEqual(resized(screen(visible=False), 2, 3), screen(visible=False))

    def test_greater(self):
        wanted = ((A, W, H, B), (B, B, A, B), (B, B, B, B))
        self.assertEqual(resized(screen(), 3, 4), screen(lines=wanted))
        self.assertEqual(resized(screen(), 4, 3)[0], LINES + ((B, B, B),) * 2)

    def test_smaller_one_way_and_greater_the_other_way(self):
        self.assertEqual(resized(screen(), 3, 2), screen(lines=((A, B), (B, B), (B, B)), cursor=(1, 1)))
        self.assertEqual(resized(screen(), 1, 5), screen(lines=((A, W, H, B, B),), cursor=(0, 2)))

    def test_all_sizes(self):
        for rows in range(1, 13):
            for columns in range(2, 41):
                after = resized(screen(), rows, columns)
                self.assertIs(is_screen(after), True)
                self.assertEqual([len(line) for line in after[0]], [columns] * rows)
                self.assertEqual(after[1:], ((min(1, rows - 1), min(2, columns - 1)), True, (97, 196)))
                self.assertTrue(all(is_line(line) for line in after[0]))


class TestScreenText(unittest.TestCase):
    def test_texts(self):
        self.assertEqual(screen_text(screen()), [[97, 196], [32, 32, 97]])
        self.assertEqual(screen_text(blank_screen(3, 5)), [[], [], []])
        self.assertEqual(screen_text(screen(lines=((A, (32, (7,)), B),))), [[97]])

    def test_returned_lists_are_the_callers(self):
        value = screen()
        returned = screen_text(value)
        returned[0].append(5)
        returned.append([])
        self.assertEqual(screen_text(value), [[97, 196], [32, 32, 97]])
