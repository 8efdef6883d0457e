"""What a foreteller shows, also while the far end echoes each key as it was foretold."""

import unittest

from fardesk.foretelling import Foreteller
from fardesk.screens import is_screen
from fardesk.terminals import showing
from tests.drawing import chances, drawn_screen, drawn_size
from tests.helpers import at, look


def without_styles(screen):
    lines, cursor, visible, title = screen
    return tuple(tuple(character for character, _ in line) for line in lines), cursor, visible, title


def echo_of(key):
    """What the far end writes for a key."""
    if key == "back":
        return [8, 32, 8]
    return [key]


class TestShown(unittest.TestCase):
    def shown(self, string, *keys):
        """The lines of what is shown, as strings, where a line of a screen has a cursor and gets keys."""
        foreteller = Foreteller(look(1, 8, string))
        for key in keys:
            foreteller.press(key)
        return foreteller.screen()

    def test_a_wide_character_is_cut(self):
        line, = self.shown("a\xc4bc" + at(0, 1), 120)[0]
        self.assertEqual(line[:5], ((97, ()), (120, (4,)), (32, ()), (98, ()), (99, ())))

    def test_a_right_half_is_cut(self):
        line, = self.shown("a\xc4bc" + at(0, 2), 120)[0]
        self.assertEqual(line[:5], ((97, ()), (32, ()), (120, (4,)), (98, ()), (99, ())))

    def test_back_over_a_right_half(self):
        line, = self.shown("a\x1b[1m\xc4", "back")[0]
        self.assertEqual(line[:4], ((97, ()), (32, ()), (32, (4,)), (32, ())))

    def test_two_wide_characters(self):
        line, = self.shown("\xc4\xc5\xc6" + at(0, 1), 120, 121)[0]
        self.assertEqual(line[:6], ((32, ()), (120, (4,)), (121, (4,)), (32, ()), (198, ()), (0, ())))

    def test_foretold_cells_lose_their_style(self):
        line, = self.shown("\x1b[7;31mabc" + at(0, 1), 120)[0]
        self.assertEqual(line[:3], ((97, (7, 31)), (120, (4,)), (99, (7, 31))))

    def test_the_last_foretelling_for_a_cell_is_shown(self):
        line, = self.shown("", 97, "back", 98)[0]
        self.assertEqual(line[:2], ((98, (4,)), (32, ())))
        line, = self.shown("", 97, "back")[0]
        self.assertEqual(line[:2], ((32, (4,)), (32, ())))

    def test_title_and_visibility(self):
        screen = self.shown("a\x1b[?25l\x1b]0;title\x07", 98)
        self.assertEqual(screen[1:], ((0, 2), False, tuple(ord(sign) for sign in "title")))
        foreteller = Foreteller(look(1, 8, "\x1b[?25l\x1b]0;title\x07"))
        foreteller.press(97)
        foreteller.update(look(1, 8, "\x1b]0;other\x07"), 0)
        self.assertEqual(foreteller.numbers(), (1, 0, 1, True))
        self.assertEqual(foreteller.screen()[1:], ((0, 1), True, tuple(ord(sign) for sign in "other")))


class TestEchoed(unittest.TestCase):
    def drawn_keys(self, chance, foreteller, many):
        """So many keys, as far as they are foretold."""
        keys = []
        for _ in range(many):
            _, column = foreteller.screen()[1]
            last = len(foreteller.screen()[0][0]) - 1
            possible = [97, 98, 32, 191] * (column < last) + ["back"] * (column > 0)
            keys.append(chance.choice(possible))
            foreteller.press(keys[-1])
        return keys

    def test_a_far_end_that_echoes_each_key(self):
        chance = chances(41)
        for _ in range(120):
            true_screen = drawn_screen(chance, *drawn_size(chance))
            foreteller, far_end = Foreteller(true_screen), showing(true_screen)
            keys = self.drawn_keys(chance, foreteller, chance.randrange(1, 30))
            self.assertEqual(foreteller.numbers(), (len(keys), 0, len(keys), True))
            shown = without_styles(foreteller.screen())
            self.assertTrue(is_screen(foreteller.screen()))
            echoed = 0
            while echoed < len(keys):
                more = chance.randrange(min(len(keys) - echoed, 6) + 1)
                for key in keys[echoed:echoed + more]:
                    self.assertEqual(far_end.write(echo_of(key)), [])
                echoed += more
                self.assertEqual(foreteller.update(far_end.screen(), echoed), (more, 0))
                self.assertEqual(foreteller.numbers(), (len(keys), echoed, len(keys) - echoed, True))
                self.assertEqual(without_styles(foreteller.screen()), shown)
                self.assertTrue(is_screen(foreteller.screen()))
            self.assertEqual(foreteller.screen(), far_end.screen())

    def test_keys_between_the_echoes(self):
        chance = chances(42)
        for _ in range(40):
            true_screen = drawn_screen(chance, 3, 12)
            foreteller, far_end = Foreteller(true_screen), showing(true_screen)
            waiting = []
            right = 0
            for _ in range(60):
                if chance.random() < 0.5 and len(waiting) < 64:
                    waiting.extend(self.drawn_keys(chance, foreteller, 1))
                elif waiting:
                    far_end.write(echo_of(waiting.pop(0)))
                    pressed, echoed, _, _ = foreteller.numbers()
                    decided = foreteller.update(far_end.screen(), echoed + 1)
                    self.assertEqual(decided, (1, 0))
                    right += 1
                    self.assertEqual(foreteller.numbers(), (pressed, right, len(waiting), True))
            for key in waiting:
                far_end.write(echo_of(key))
            self.assertEqual(without_styles(foreteller.screen()), without_styles(far_end.screen()))
