import unittest

from fardesk.keyforms import key_codes, key_of
from fardesk.keys import is_key

NAMES = ["enter", "tab", "back", "escape", "up", "down", "right", "left", "home", "end", "insert", "delete",
         "page up", "page down"]
KEYS = [character for character in range(256) if is_key(character)] + NAMES


class TestKeyForms(unittest.TestCase):
    def test_characters(self):
        for character in list(range(32, 127)) + list(range(160, 256)):
            self.assertEqual(key_codes(character), (0, character))

    def test_names(self):
        for index, name in enumerate(NAMES):
            self.assertEqual(key_codes(name), (1, index))

    def test_there_and_back(self):
        self.assertEqual(len(KEYS), 191 + 14)
        for key in KEYS:
            self.assertEqual(key_of(key_codes(key)), key)

    def test_unlike_keys_have_unlike_codes(self):
        self.assertEqual(len({key_codes(key) for key in KEYS}), len(KEYS))

    def test_every_tuple_of_two_octets(self):
        codes = {key_codes(key): key for key in KEYS}
        for first in range(256):
            for second in range(256):
                self.assertEqual(key_of((first, second)), codes.get((first, second)))

    def test_control_characters(self):
        for character in list(range(32)) + list(range(127, 160)):
            self.assertIsNone(key_of((0, character)))

    def test_an_index_that_is_none(self):
        for index in (14, 15, 32, 65, 255):
            self.assertIsNone(key_of((1, index)))

    def test_other_lengths(self):
        for codes in ((), (0,), (1,), (65,), (0, 65, 0), (1, 1, 1), (0, 65, 0, 65), (0,) * 200):
            self.assertIsNone(key_of(codes))
