import unittest

from fardesk.differences import applied, difference
from fardesk.errors import RefusedError
from fardesk.screens import blank_screen, is_screen
from fardesk.tapes import read_tape
from tests.drawing import chances, drawn_text
from tests.helpers import look, text
from tests.test_tapes import BLANK, drawn_tape, screen, tape_with, whole


def key(time, told=()):
    return "key", time, 2, 8, list(told)


def following(time, told=()):
    return "next", time, list(told)


def screens(tape, times):
    return [tape.at(time) for time in times]


class TestReadBack(unittest.TestCase):
    def test_drawn_tapes(self):
        chance = chances(45)
        for interval in (1, 2, 3, 20):
            for many in (0, 1, 2, 21, 60):
                tape, _ = drawn_tape(chance, interval, many)
                again = read_tape(interval, tape.rows())
                self.assertEqual(whole(again), whole(tape))

    def test_another_interval_than_that_of_the_rows(self):
        rows = tape_with(2, 5).rows()
        self.assertEqual(read_tape(7, rows).numbers(), (7, 1, 0))

    def test_no_rows(self):
        self.assertEqual(whole(read_tape(3, [])), ((3, 0, 0), []))

    def test_a_tuple_of_rows(self):
        tape = tape_with(2, 5, 9, 20)
        self.assertEqual(whole(read_tape(2, tuple(tape.rows()))), whole(tape))

    def test_frames_can_be_added(self):
        tape = read_tape(2, [key(5), following(9)])
        self.assertEqual(tape.add(9, screen(2)), 3)
        self.assertEqual(tape.rows()[2], ("key", 9, 2, 8, difference(BLANK, screen(2))))


class TestTexts(unittest.TestCase):
    def test_they_are_applied_to_the_right_screens(self):
        tape = read_tape(2, [key(0, text("a")), following(1, text("b")), key(2, text("c")), following(3, text("d"))])
        self.assertEqual(screens(tape, range(4)),
                         [look(2, 8, "a"), look(2, 8, "ab"), look(2, 8, "c"), look(2, 8, "cd")])

    def test_each_text_from_a_plain_terminal_on(self):
        tape = read_tape(3, [key(0, text("\x1b[7ma\x1b[")), following(1, text("1mb")), following(2, text("\x1b]0;"))])
        self.assertEqual(screens(tape, range(3)),
                         [look(2, 8, "\x1b[7ma"), look(2, 8, "\x1b[7ma\x1b[m1mb"), look(2, 8, "\x1b[7ma\x1b[m1mb")])

    def test_a_key_frame_that_takes_another_size(self):
        tape = read_tape(1, [key(0, text("\x1b[8;3;5tx"))])
        self.assertEqual(tape.at(0), look(3, 5, "x"))
        self.assertEqual(tape.rows(), [("key", 0, 3, 5, difference(blank_screen(3, 5), look(3, 5, "x")))])

    def test_sizes_of_key_frames(self):
        tape = read_tape(1, [("key", 0, 1, 2, []), ("key", 1, 12, 40, []), ("key", 2, 3, 5, text("x"))])
        self.assertEqual(screens(tape, range(3)), [blank_screen(1, 2), blank_screen(12, 40), look(3, 5, "x")])

    def test_any_text(self):
        chance = chances(46)
        for interval in (1, 2, 20):
            texts = [drawn_text(chance, 15) for _ in range(40)]
            rows = [following(n, told) if n % interval else key(n, told) for n, told in enumerate(texts)]
            tape = read_tape(interval, rows)
            shown = BLANK
            for number, told in enumerate(texts):
                shown = applied(shown if number % interval else BLANK, told)
                self.assertEqual(tape.at(number), shown)
                self.assertTrue(is_screen(shown))


class TestRefusals(unittest.TestCase):
    def refused(self, reason, interval, rows):
        with self.assertRaises(RefusedError) as caught:
            read_tape(interval, rows)
        self.assertEqual(caught.exception.reason, reason)

    def test_a_first_row_that_is_no_key_frame(self):
        self.refused("row 0", 2, [following(5)])
        self.refused("row 0", 1, [following(5), following(6)])

    def test_kinds(self):
        for interval in (1, 2, 3, 20):
            right = tape_with(interval, *range(45)).rows()
            self.assertEqual(read_tape(interval, right).numbers(), (interval, 45, 44))
            for number, row in enumerate(right):
                other = following(number) if row[0] == "key" else key(number)
                self.refused(f"row {number}", interval, right[:number] + [other] + right[number + 1:])

    def test_times(self):
        rows = [key(5), following(5), key(9), following(20)]
        self.assertEqual(read_tape(2, rows).numbers(), (2, 4, 15))
        self.refused("row 1", 2, [key(5), following(4)])
        self.refused("row 2", 2, [key(5), following(9), key(8)])
        self.refused("row 3", 2, [key(5), following(9), key(9), following(0), key(0)])

    def test_a_time_is_compared_with_that_of_the_row_before(self):
        # The third row is later than the first one, but not than the second one.
        self.refused("row 2", 3, [key(5), following(20), following(10)])

    def test_the_first_row_of_several(self):
        self.refused("row 1", 2, [key(5), following(4), following(3)])
        self.refused("row 1", 2, [key(5), key(6), key(3)])
        self.refused("row 0", 2, [following(5), key(4)])
        self.refused("row 3", 2, [key(5), following(6), key(7), following(6), following(0)])

    def test_both_faults_in_one_row(self):
        self.refused("row 1", 2, [key(5), key(4)])

    def test_61_rows(self):
        rows = tape_with(2, *range(60)).rows()
        self.assertEqual(read_tape(2, rows).numbers(), (2, 60, 59))
        self.refused("too many frames", 2, rows + [key(60)])
        self.refused("too many frames", 2, rows + [key(60), following(61), key(62)])

    def test_all_rows_are_looked_at_first(self):
        rows = tape_with(2, *range(60)).rows()
        self.refused("row 60", 2, rows + [following(60)])
        self.refused("row 60", 2, rows + [key(58)])
        self.refused("row 62", 2, rows + [key(60), following(61), key(60)])


class TestOwnership(unittest.TestCase):
    def test_rows_stay_and_may_be_changed_later(self):
        rows = [key(5, text("a")), following(9, text("b"))]
        kept = [key(5, text("a")), following(9, text("b"))]
        tape = read_tape(2, rows)
        self.assertEqual(rows, kept)
        before = whole(tape)
        rows[0][4].append(97)
        rows[1][2].clear()
        rows.clear()
        self.assertEqual(whole(tape), before)
