import unittest

from fardesk.lines import (
    blank_line, cut_at, deleted, erased, fitted, inserted, is_line, line_text, put,
)

B = (32, ())
A = (97, (1,))
W = (196, (7,))
H = (0, (7,))


def all_lines(columns):
    """All lines with so many cells that consist of A, B and W with H."""
    if columns == 0:
        return [()]
    lines = [line + (cell,) for line in all_lines(columns - 1) for cell in (A, B)]
    if columns > 1:
        lines += [line + (W, H) for line in all_lines(columns - 2)]
    return lines


def split_at(line, columns):
    """The cells of a line, a list, in which wide characters that stand across one of the columns are blank."""
    cells = list(line)
    for column in columns:
        if 0 < column < len(line) and line[column] == H:
            cells[column - 1:column + 1] = [B, B]
    return cells


LINES = [line for columns in range(1, 6) for line in all_lines(columns)]


class TestIsLine(unittest.TestCase):
    def test_lines(self):
        for cells in ((), (B,), (A,), (W, H), (A, W, H), (W, H, A), (W, H, W, H), ((160, ()), (126, ()))):
            self.assertIs(is_line(cells), True, cells)
        for cells in LINES:
            self.assertIs(is_line(cells), True, cells)

    def test_a_wide_character_at_the_end(self):
        self.assertIs(is_line((W,)), False)
        self.assertIs(is_line((A, W)), False)
        self.assertIs(is_line((W, H, W)), False)

    def test_wrong_right_halves(self):
        for cells in ((H,), (H, A), (A, H), (B, H), (W, H, H), (W, H, A, H), ((0, ()),)):
            self.assertIs(is_line(cells), False, cells)

    def test_a_right_half_with_another_style(self):
        for style in ((), (1,), (4, 7), (1, 7)):
            self.assertIs(is_line((W, (0, style))), False, style)
        self.assertIs(is_line(((196, ()), (0, (7,)))), False)

    def test_a_wide_character_without_its_right_half(self):
        for cells in ((W, W, H), (W, A), (W, (97, (7,))), (W, B), (W, (1, (7,)))):
            self.assertIs(is_line(cells), False, cells)

    def test_characters(self):
        for character in range(1, 256):
            cells = ((character, (4,)),)
            if character >= 192:
                cells += ((0, (4,)),)
            control = character < 32 or 127 <= character < 160
            self.assertIs(is_line(cells), not control, character)
            self.assertIs(is_line((A,) + cells + (A,)), not control, character)

    def test_what_is_no_character(self):
        for character in (-1, -97, 256, 1000, False, True):
            self.assertIs(is_line(((character, ()),)), False, character)
            self.assertIs(is_line(((character, ()), (0, ()))), False, character)
        self.assertIs(is_line(((196, ()), (False, ()))), False)

    def test_styles(self):
        for style in ((4, 1), (1, 1), (30, 31), (2,), (0,)):
            self.assertIs(is_line(((97, style),)), False, style)
            self.assertIs(is_line(((196, style), (0, style))), False, style)
        self.assertIs(is_line(((97, (1, 4, 7, 30, 47)),)), True)


class TestBlankLine(unittest.TestCase):
    def test_blank_line(self):
        self.assertEqual(blank_line(0), ())
        self.assertEqual(blank_line(2), ((32, ()), (32, ())))
        self.assertEqual(blank_line(40), ((32, ()),) * 40)


class TestCutAt(unittest.TestCase):
    def test_cases(self):
        line = (W, H, A, W, H)
        self.assertEqual(cut_at(line, 0), line)
        self.assertEqual(cut_at(line, 1), (B, B, A, W, H))
        self.assertEqual(cut_at(line, 2), line)
        self.assertEqual(cut_at(line, 3), line)
        self.assertEqual(cut_at(line, 4), (W, H, A, B, B))
        self.assertEqual(cut_at(line, 5), line)
        self.assertEqual(cut_at((), 0), ())

    def test_all_small_lines(self):
        for line in LINES:
            for column in range(len(line) + 1):
                self.assertEqual(cut_at(line, column), tuple(split_at(line, [column])), (line, column))


class TestPut(unittest.TestCase):
    def test_the_example(self):
        self.assertEqual(put(blank_line(4), 1, 196, (7,)), ((32, ()), (196, (7,)), (0, (7,)), (32, ())))

    def test_first_and_last_cell(self):
        self.assertEqual(put((A, A, A), 0, 98, ()), ((98, ()), A, A))
        self.assertEqual(put((A, A, A), 2, 98, ()), (A, A, (98, ())))
        self.assertEqual(put((A, A, A), 0, 255, (4,)), ((255, (4,)), (0, (4,)), A))
        self.assertEqual(put((A, A, A), 1, 192, (4,)), (A, (192, (4,)), (0, (4,))))

    def test_wide_characters_are_cut(self):
        self.assertEqual(put((W, H, W, H), 0, 98, ()), ((98, ()), B, W, H))
        self.assertEqual(put((W, H, W, H), 1, 98, ()), (B, (98, ()), W, H))
        self.assertEqual(put((W, H, W, H), 1, 200, ()), (B, (200, ()), (0, ()), B))
        self.assertEqual(put((W, H, W, H), 2, 200, ()), (W, H, (200, ()), (0, ())))

    def test_all_small_lines(self):
        for line in LINES:
            for character, cells in ((98, [(98, (4,))]), (200, [(200, (4,)), (0, (4,))])):
                for column in range(len(line) - len(cells) + 1):
                    behind = column + len(cells)
                    wanted = split_at(line, [column, behind])
                    wanted[column:behind] = cells
                    self.assertEqual(put(line, column, character, (4,)), tuple(wanted), (line, column))


class TestErased(unittest.TestCase):
    def test_the_example(self):
        self.assertEqual(erased(put(blank_line(4), 1, 196, (7,)), 2, 3), blank_line(4))

    def test_first_and_last_cell(self):
        self.assertEqual(erased((A, A, A), 0, 1), (B, A, A))
        self.assertEqual(erased((A, A, A), 2, 3), (A, A, B))
        self.assertEqual(erased((A, A, A), 0, 3), (B, B, B))

    def test_end_not_greater_than_start(self):
        line = (W, H, A, W, H)
        for start in range(6):
            for end in range(start + 1):
                self.assertEqual(erased(line, start, end), line, (start, end))

    def test_all_small_lines(self):
        for line in LINES:
            for start in range(len(line)):
                for end in range(start + 1, len(line) + 1):
                    wanted = split_at(line, [start, end])
                    wanted[start:end] = [B] * (end - start)
                    self.assertEqual(erased(line, start, end), tuple(wanted), (line, start, end))


class TestInserted(unittest.TestCase):
    def test_cases(self):
        line = (A, W, H, A)
        self.assertEqual(inserted(line, 0, 1), (B, A, W, H))
        self.assertEqual(inserted(line, 0, 2), (B, B, A, B))
        self.assertEqual(inserted(line, 2, 1), (A, B, B, B))
        self.assertEqual(inserted(line, 3, 1), (A, W, H, B))
        self.assertEqual(inserted(line, 0, 4), blank_line(4))
        self.assertEqual(inserted(line, 1, 9999), (A, B, B, B))
        self.assertEqual(inserted(line, 2, 2), (A, B, B, B))

    def test_nothing_inserted(self):
        line = (A, W, H, A)
        for column in range(5):
            self.assertEqual(inserted(line, column, 0), line)
        self.assertEqual(inserted(line, 4, 3), line)
        self.assertEqual(inserted((W, H), 2, 1), (W, H))

    def test_all_small_lines(self):
        for line in LINES:
            for column in range(len(line)):
                for many in range(1, len(line) + 3):
                    end = len(line) - min(many, len(line) - column)
                    cells = split_at(line, [column, end])
                    wanted = cells[:column] + [B] * (len(line) - end) + cells[column:end]
                    self.assertEqual(inserted(line, column, many), tuple(wanted), (line, column, many))


class TestDeleted(unittest.TestCase):
    def test_cases(self):
        line = (A, W, H, A)
        self.assertEqual(deleted(line, 0, 1), (W, H, A, B))
        self.assertEqual(deleted(line, 1, 1), (A, B, A, B))
        self.assertEqual(deleted(line, 2, 1), (A, B, A, B))
        self.assertEqual(deleted(line, 0, 2), (B, A, B, B))
        self.assertEqual(deleted(line, 3, 1), (A, W, H, B))
        self.assertEqual(deleted(line, 0, 4), blank_line(4))
        self.assertEqual(deleted(line, 1, 9999), (A, B, B, B))
        self.assertEqual(deleted(line, 2, 2), (A, B, B, B))

    def test_nothing_deleted(self):
        line = (A, W, H, A)
        for column in range(5):
            self.assertEqual(deleted(line, column, 0), line)
        self.assertEqual(deleted(line, 4, 3), line)
        self.assertEqual(deleted((W, H), 2, 1), (W, H))

    def test_all_small_lines(self):
        for line in LINES:
            for column in range(len(line)):
                for many in range(1, len(line) + 3):
                    behind = column + min(many, len(line) - column)
                    cells = split_at(line, [column, behind])
                    wanted = cells[:column] + cells[behind:] + [B] * (behind - column)
                    self.assertEqual(deleted(line, column, many), tuple(wanted), (line, column, many))


class TestFitted(unittest.TestCase):
    def test_cases(self):
        line = (A, W, H, A)
        self.assertEqual(fitted(line, 1), (A,))
        self.assertEqual(fitted(line, 2), (A, B))
        self.assertEqual(fitted(line, 3), (A, W, H))
        self.assertEqual(fitted(line, 4), line)
        self.assertEqual(fitted(line, 7), line + (B, B, B))
        self.assertEqual(fitted((A, W, H), 4), (A, W, H, B))

    def test_all_small_lines(self):
        for line in LINES:
            for columns in range(1, len(line) + 3):
                wanted = (split_at(line, [columns]) + [B] * 9)[:columns]
                self.assertEqual(fitted(line, columns), tuple(wanted), (line, columns))


class TestLineText(unittest.TestCase):
    def test_texts(self):
        self.assertEqual(line_text(()), [])
        self.assertEqual(line_text(blank_line(5)), [])
        self.assertEqual(line_text((A, B, A, B, B)), [97, 32, 97])
        self.assertEqual(line_text((B, A)), [32, 97])
        self.assertEqual(line_text((W, H, A, W, H)), [196, 97, 196])
        self.assertEqual(line_text((A, W, H, B)), [97, 196])

    def test_spaces_at_the_end_in_any_style(self):
        self.assertEqual(line_text((A, (32, (7,)), B)), [97])
        self.assertEqual(line_text((A, (32, (44,)), (32, (7,)))), [97])
        self.assertEqual(line_text(((32, (7,)),)), [])

    def test_other_blanks_stay(self):
        self.assertEqual(line_text((A, (160, ()))), [97, 160])

    def test_returned_lists_are_the_callers(self):
        line = (A, W, H)
        line_text(line).append(7)
        self.assertEqual(line_text(line), [97, 196])


class TestAllResults(unittest.TestCase):
    def test_results_are_lines_with_as_many_cells(self):
        for line in LINES:
            for column in range(len(line)):
                for other in range(len(line) + 1):
                    for after in (cut_at(line, column), erased(line, column, other),
                                  inserted(line, column, other), deleted(line, column, other)):
                        self.assertIsInstance(after, tuple)
                        self.assertIs(is_line(after), True)
                        self.assertEqual(len(after), len(line))
