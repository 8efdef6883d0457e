import unittest

from fardesk.keys import is_key, key_text, pasted_text

NAMES = ["enter", "tab", "back", "escape", "up", "down", "right", "left", "home", "end",
         "insert", "delete", "page up", "page down"]
PLAIN = {"enter": "\r", "tab": "\t", "back": "\x7f", "escape": "\x1b",
         "insert": "\x1b[2~", "delete": "\x1b[3~", "page up": "\x1b[5~", "page down": "\x1b[6~"}
MOVING = {"up": "A", "down": "B", "right": "C", "left": "D", "home": "H", "end": "F"}


def codes(string):
    return [ord(sign) for sign in string]


class TestIsKey(unittest.TestCase):
    def test_characters(self):
        for character in range(256):
            control = character < 32 or 127 <= character < 160
            self.assertIs(is_key(character), not control, character)

    def test_what_is_no_character(self):
        for value in (-1, 256, 1000, True, False):
            self.assertIs(is_key(value), False, value)

    def test_names(self):
        for name in NAMES:
            self.assertIs(is_key(name), True, name)

    def test_other_strings(self):
        for name in ("", "a", "Enter", "ENTER", "enter ", " enter", "page", "pageup", "page_up", "down page",
                     "return", "backspace", "esc", "ent", "space", "up\n"):
            self.assertIs(is_key(name), False, name)


class TestKeyText(unittest.TestCase):
    def test_characters(self):
        for character in (32, 65, 97, 126, 160, 191, 192, 255):
            for application in (False, True):
                self.assertEqual(key_text(character, application), [character])

    def test_names_without_application(self):
        for name in NAMES:
            wanted = PLAIN[name] if name in PLAIN else "\x1b[" + MOVING[name]
            self.assertEqual(key_text(name, False), codes(wanted), name)

    def test_names_with_application(self):
        for name in NAMES:
            wanted = PLAIN[name] if name in PLAIN else "\x1bO" + MOVING[name]
            self.assertEqual(key_text(name, True), codes(wanted), name)

    def test_returned_lists_are_the_callers(self):
        for key in [97] + NAMES:
            before = list(key_text(key, False))
            key_text(key, False).append(1)
            self.assertEqual(key_text(key, False), before)


class TestPastedText(unittest.TestCase):
    def test_ordinary_texts(self):
        self.assertEqual(pasted_text(codes("ls -l"), False), codes("ls -l"))
        self.assertEqual(pasted_text(codes("ls -l"), True), codes("\x1b[200~ls -l\x1b[201~"))
        self.assertEqual(pasted_text([], False), [])
        self.assertEqual(pasted_text([], True), codes("\x1b[200~\x1b[201~"))

    def test_each_character(self):
        for character in range(256):
            dropped = (character < 32 or 127 <= character < 160) and character not in (9, 10)
            wanted = codes("ab") if dropped else [97, character, 98]
            given = [97, character, 98]
            self.assertEqual(pasted_text(given, False), wanted, character)
            self.assertEqual(pasted_text(given, True), codes("\x1b[200~") + wanted + codes("\x1b[201~"), character)
            self.assertEqual(given, [97, character, 98])

    def test_an_end_in_the_text_loses_its_escape(self):
        self.assertEqual(pasted_text(codes("a\x1b[201~b"), True), codes("\x1b[200~a[201~b\x1b[201~"))

    def test_returned_lists_are_the_callers(self):
        given = codes("ab")
        pasted_text(given, False).append(1)
        self.assertEqual(given, codes("ab"))
