import unittest
from itertools import combinations

from fardesk.styles import is_style, kind_of_number, style_text, styled, turned

KINDS = {1: "bold", 4: "underlined", 7: "inverse"}
KINDS.update({number: "foreground" for number in range(30, 38)})
KINDS.update({number: "background" for number in range(40, 48)})
REMOVED = {22: 1, 24: 4, 27: 7, 39: 33, 49: 44}
NO_NUMBERS = (-1, -4, -30, 2, 3, 5, 6, 8, 9, 10, 21, 23, 25, 26, 28, 29, 38, 48, 50, 90, 100, 107, 9999, 10 ** 30)
FULL = (1, 4, 7, 33, 44)


class TestNumbers(unittest.TestCase):
    def test_kind_of_number(self):
        for number in list(range(-60, 200)) + [9999, 10 ** 30]:
            self.assertEqual(kind_of_number(number), KINDS.get(number, ""), number)

    def test_a_bool_is_no_number_of_a_style(self):
        self.assertEqual(kind_of_number(True), "")
        self.assertIs(is_style((True,)), False)


class TestIsStyle(unittest.TestCase):
    def test_styles(self):
        for style in ((), (1,), (4,), (7,), (30,), (37,), (40,), (47,), (1, 4), (1, 47), (4, 7, 30), FULL):
            self.assertIs(is_style(style), True, style)

    def test_wrong_tuples(self):
        for style in ((4, 1), (7, 4), (44, 33), (1, 1), (7, 7), (33, 33), (30, 31), (36, 37), (1, 40, 47),
                      (0,), (1, 4, 0), (1, 2), (22,), (39,), (-1,), (-1, 1), (1, 4, 7, 44, 33), FULL + (45,)):
            self.assertIs(is_style(style), False, style)

    def test_numbers_that_occur_in_no_style(self):
        for number in NO_NUMBERS + (0, 22, 24, 27, 39, 49):
            self.assertIs(is_style((number,)), False, number)

    def test_all_pairs(self):
        numbers = sorted(KINDS)
        for low, high in combinations(numbers, 2):
            self.assertIs(is_style((low, high)), KINDS[low] != KINDS[high], (low, high))
            self.assertIs(is_style((high, low)), False, (high, low))


class TestStyled(unittest.TestCase):
    def test_zero_makes_the_default_style(self):
        for style in ((), (1,), FULL):
            self.assertEqual(styled(style, 0), ())

    def test_each_number_that_puts(self):
        for number in KINDS:
            self.assertEqual(styled((), number), (number,))
            others = [old for old in FULL if KINDS[old] != KINDS[number]]
            self.assertEqual(styled(FULL, number), tuple(sorted(others + [number])), number)
            self.assertEqual(styled(tuple(others), number), tuple(sorted(others + [number])), number)

    def test_a_number_that_is_there_already(self):
        for number in FULL:
            self.assertEqual(styled(FULL, number), FULL)

    def test_each_number_that_removes(self):
        for number, gone in REMOVED.items():
            self.assertEqual(styled(FULL, number), tuple(old for old in FULL if old != gone), number)
            self.assertEqual(styled((), number), ())
            for old in (30, 31, 37, 40, 41, 47, 1, 4, 7):
                kept = () if KINDS[old] == KINDS[gone] else (old,)
                self.assertEqual(styled((old,), number), kept, (old, number))

    def test_all_other_numbers_change_nothing(self):
        for number in NO_NUMBERS:
            for style in ((), (1,), (35,), FULL):
                self.assertEqual(styled(style, number), style, number)

    def test_the_result_is_always_a_style(self):
        for style in ((), (1, 47), (4, 30), FULL):
            for number in range(-3, 120):
                after = styled(style, number)
                self.assertIs(is_style(after), True, (style, number))
                self.assertIsInstance(after, tuple)


class TestTurned(unittest.TestCase):
    def test_numbers_in_order(self):
        for kind in (list, tuple):
            self.assertEqual(turned((), kind([44, 7, 1])), (1, 7, 44))
            self.assertEqual(turned((4,), kind([31, 32, 22])), (4, 32))
            self.assertEqual(turned((4,), kind([31, 0, 1])), (1,))
            self.assertEqual(turned((4,), kind([1, 0])), ())
            self.assertEqual(turned((4,), kind([])), (4,))
            self.assertEqual(turned((4,), kind([2, 99, -5])), (4,))
            self.assertEqual(turned(FULL, kind([39, 49, 27, 24, 22])), ())

    def test_nothing_handed_in_is_changed(self):
        numbers = [7, 1, 0, 4]
        self.assertEqual(turned((1,), numbers), (4,))
        self.assertEqual(numbers, [7, 1, 0, 4])


class TestStyleText(unittest.TestCase):
    def text(self, style):
        return "".join(chr(character) for character in style_text(style))

    def test_texts(self):
        self.assertEqual(style_text(()), [48])
        self.assertEqual(style_text((1,)), [48, 59, 49])
        self.assertEqual(self.text((4, 37)), "0;4;37")
        self.assertEqual(self.text(FULL), "0;1;4;7;33;44")

    def test_returned_lists_are_the_callers(self):
        for style in ((), (1,)):
            before = list(style_text(style))
            style_text(style).append(7)
            self.assertEqual(style_text(style), before)
