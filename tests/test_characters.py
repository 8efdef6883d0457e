import unittest

from fardesk.characters import codes, digits, is_character, is_printable, kind_of, width_of


def expected_kind(character):
    if character in list(range(0, 32)) + list(range(127, 160)):
        return "control"
    if character in range(192, 256):
        return "wide"
    return "narrow"


class TestCharacters(unittest.TestCase):
    def test_codes(self):
        self.assertEqual(codes(""), [])
        self.assertEqual(codes("ls"), [108, 115])
        self.assertEqual(codes("a[\x1b\xc4\xff\x00"), [97, 91, 27, 196, 255, 0])

    def test_kind_of_every_character(self):
        for character in range(256):
            self.assertEqual(kind_of(character), expected_kind(character), character)

    def test_kind_of_the_edges(self):
        edges = {0: "control", 31: "control", 32: "narrow", 126: "narrow", 127: "control",
                 159: "control", 160: "narrow", 191: "narrow", 192: "wide", 255: "wide"}
        for character, kind in edges.items():
            self.assertEqual(kind_of(character), kind, character)

    def test_width_of_every_character(self):
        widths = {"control": 0, "narrow": 1, "wide": 2}
        for character in range(256):
            self.assertEqual(width_of(character), widths[expected_kind(character)], character)

    def test_is_printable_of_every_character(self):
        for character in range(256):
            printable = expected_kind(character) != "control"
            self.assertIs(is_printable([character]), printable, character)
            self.assertIs(is_printable((character,)), printable, character)

    def test_is_printable_looks_at_all_characters(self):
        self.assertIs(is_printable([]), True)
        self.assertIs(is_printable(()), True)
        self.assertIs(is_printable(codes("ab\xc4 ")), True)
        for place in range(3):
            text = codes("abc")
            text[place] = 10
            self.assertIs(is_printable(text), False)
            self.assertIs(is_printable(tuple(text)), False)

    def test_is_character(self):
        for value, wanted in ((-1, False), (0, True), (255, True), (256, False), (True, False), (False, False)):
            self.assertIs(is_character(value), wanted, value)

    def test_digits(self):
        for number in (0, 1, 7, 9, 10, 19, 100, 9999, 10203040506070809, 4294967295):
            self.assertEqual(digits(number), [ord(sign) for sign in str(number)])
        self.assertEqual(digits(0), [48])
        self.assertEqual(digits(205), [50, 48, 53])

    def test_returned_lists_are_the_callers(self):
        for call, argument in ((codes, "12"), (digits, 12)):
            returned = call(argument)
            returned.append(7)
            self.assertEqual(call(argument), [49, 50])

    def test_nothing_handed_in_is_changed(self):
        text = [97, 10, 98]
        is_printable(text)
        self.assertEqual(text, [97, 10, 98])
