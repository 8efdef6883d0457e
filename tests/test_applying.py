import unittest

from fardesk.differences import applied
from fardesk.screens import blank_screen, is_screen
from fardesk.terminals import showing
from tests.drawing import chances, drawn_screen, drawn_size, drawn_text
from tests.helpers import CSI, ESC, look, text

TEXTS = {
    "nothing": "",
    "characters": "ab\xc4c",
    "controls": "a\r\nb\tc\x08\x00\x1f",
    "an escape": ESC,
    "an unfinished sequence": CSI + "1;2",
    "an unfinished command": ESC + "]2;abc",
    "an unfinished escaped command": ESC + "]2;abc" + ESC,
    "a long title": ESC + "]0;" + "t" * 60 + "\x07",
    "the other screen": "ab" + CSI + "?1049hc",
    "another size": CSI + "8;5;7tabc",
    "a size that is none": CSI + "8;13;41tabc",
    "a question": CSI + "6n" + CSI + "c",
    "all characters": "".join(chr(code) for code in range(256)),
}


def written(screen, told):
    """The screen of a terminal that showed a screen and has read a text."""
    terminal = showing(screen)
    terminal.write(told)
    return terminal.screen()


class TestApplied(unittest.TestCase):
    def test_ordinary_texts(self):
        self.assertEqual(applied(blank_screen(2, 8), text("ls\r\n" + CSI + "1ma")), look(2, 8, "ls\r\n" + CSI + "1ma"))
        self.assertEqual(applied(look(2, 8, "ab"), text("c")), look(2, 8, "abc"))
        self.assertEqual(applied(look(2, 8, "ab"), []), look(2, 8, "ab"))

    def test_each_text_from_a_plain_terminal_on(self):
        # What is not part of a screen (a style, a new line that is pending) is as at first.
        self.assertEqual(applied(look(1, 2, CSI + "1mab"), text("c")),
                         ((((97, (1,)), (99, ())),), (0, 1), True, ()))

    def test_named_texts(self):
        for what, string in TEXTS.items():
            for screen in (blank_screen(1, 2), look(3, 8, "abc\r\n\xc4d"), blank_screen(12, 40)):
                result = applied(screen, text(string))
                self.assertTrue(is_screen(result), what)
                self.assertEqual(result, written(screen, text(string)), what)

    def test_any_text(self):
        chance = chances(33)
        for _ in range(250):
            screen = drawn_screen(chance, *drawn_size(chance))
            told = drawn_text(chance, 30)
            result = applied(screen, told)
            self.assertTrue(is_screen(result))
            self.assertEqual(result, written(screen, told))

    def test_a_screen_of_another_size(self):
        lines, cursor, visible, title = applied(blank_screen(2, 8), text(TEXTS["another size"]))
        self.assertEqual((len(lines), len(lines[0])), (5, 7))
        self.assertEqual((cursor, visible, title), ((0, 3), True, ()))

    def test_other_screens(self):
        self.assertEqual(applied(look(2, 8, "ab"), text(CSI + "?1049hc")), look(2, 8, CSI + "1;3Hc"))
