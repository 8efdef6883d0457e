import unittest

from fardesk.differences import applied, difference
from fardesk.errors import RefusedError
from fardesk.screens import blank_screen
from fardesk.tapes import Tape, read_tape
from tests.drawing import chances, drawn_screen, drawn_size, neighbour
from tests.helpers import look, text

BLANK = blank_screen(2, 8)
NEW = look(2, 8, "ls\r\n\x1b[1ma.t\x1b[0m")


def screen(number):
    """Another screen for each number."""
    return look(2, 8, str(number))


def tape_with(interval, *times):
    """A tape with a frame for each time, with the screens of the numbers 0, 1 and so on."""
    tape = Tape(interval)
    for number, time in enumerate(times):
        assert tape.add(time, screen(number)) == number + 1
    return tape


def whole(tape):
    return tape.numbers(), tape.rows()


def drawn_tape(chance, interval, many):
    """A tape with neighbouring screens, and its frames."""
    tape, frames = Tape(interval), []
    time, shown = chance.randrange(100), drawn_screen(chance, *drawn_size(chance))
    for _ in range(many):
        frames.append((time, shown))
        tape.add(time, shown)
        time += chance.choice((0, 0, 1, 5, 100))
        shown = neighbour(chance, shown)
    return tape, frames


class TapeCase(unittest.TestCase):
    def refused(self, tape, reason, call, *arguments):
        before = whole(tape)
        with self.assertRaises(RefusedError) as caught:
            call(*arguments)
        self.assertEqual(caught.exception.reason, reason)
        self.assertEqual(whole(tape), before)


class TestExample(unittest.TestCase):
    def test_all_of_it(self):
        tape = Tape(2)
        self.assertEqual((tape.add(5, BLANK), tape.add(9, NEW)), (1, 2))
        self.assertEqual(tape.rows(), [("key", 5, 2, 8, []), ("next", 9, difference(BLANK, NEW))])
        self.assertEqual(tape.play(5, 9), [(9, difference(BLANK, NEW))])
        self.assertEqual(tape.without_pauses(1).rows(), [("key", 5, 2, 8, []), ("next", 6, difference(BLANK, NEW))])


class TestAdding(TapeCase):
    def test_an_empty_tape(self):
        for interval in (1, 2, 20):
            self.assertEqual(whole(Tape(interval)), ((interval, 0, 0), []))

    def test_numbers(self):
        tape = Tape(3)
        for many, (time, length) in enumerate(((10, 0), (10, 0), (15, 5), (1000000, 999990))):
            self.assertEqual(tape.add(time, BLANK), many + 1)
            self.assertEqual(tape.numbers(), (3, many + 1, length))

    def test_times_that_decrease(self):
        tape = tape_with(2, 0, 5)
        for time in (0, 4):
            self.refused(tape, "time must not decrease", tape.add, time, BLANK)
        self.assertEqual(tape.add(5, BLANK), 3)
        self.assertEqual(tape.add(6, BLANK), 4)

    def test_60_frames_and_a_61st(self):
        tape = tape_with(7, *range(60))
        self.assertEqual(tape.numbers(), (7, 60, 59))
        self.refused(tape, "too many frames", tape.add, 59, BLANK)
        self.refused(tape, "too many frames", tape.add, 100, BLANK)

    def test_both_errors(self):
        tape = tape_with(7, *range(60))
        self.refused(tape, "time must not decrease", tape.add, 58, BLANK)

    def test_the_same_screen_is_a_frame_of_its_own(self):
        tape = Tape(2)
        self.assertEqual([tape.add(3, BLANK) for _ in range(3)], [1, 2, 3])
        self.assertEqual(tape.rows(), [("key", 3, 2, 8, []), ("next", 3, []), ("key", 3, 2, 8, [])])

    def test_screens_of_any_size(self):
        tape = Tape(2)
        for time, size in enumerate(((1, 2), (12, 40), (3, 5))):
            tape.add(time, blank_screen(*size))
        self.assertEqual(tape.rows(), [("key", 0, 1, 2, []), ("next", 1, text("\x1b[8;12;40t")), ("key", 2, 3, 5, [])])


class TestAt(TapeCase):
    def test_before_the_first_frame(self):
        tape = tape_with(2, 5, 9)
        for time in (0, 4):
            self.refused(tape, "no frame", tape.at, time)
        self.refused(Tape(2), "no frame", Tape(2).at, 0)

    def test_at_between_and_behind(self):
        tape = tape_with(2, 5, 9, 20)
        for time, number in ((5, 0), (6, 0), (8, 0), (9, 1), (19, 1), (20, 2), (21, 2), (1000000, 2)):
            self.assertEqual(tape.at(time), screen(number), time)

    def test_the_last_one_of_equal_times(self):
        tape = tape_with(2, 5, 5, 9, 9, 9)
        self.assertEqual((tape.at(5), tape.at(8), tape.at(9)), (screen(1), screen(1), screen(4)))

    def test_the_time_0(self):
        self.assertEqual(tape_with(2, 0).at(0), screen(0))


class TestPlay(TapeCase):
    def step(self, time, number):
        return time, difference(screen(number - 1), screen(number))

    def test_some_frames(self):
        tape = tape_with(2, 5, 9, 20, 30)
        self.assertEqual(tape.play(5, 20), [self.step(9, 1), self.step(20, 2)])
        self.assertEqual(tape.play(8, 19), [self.step(9, 1)])
        self.assertEqual(tape.play(9, 19), [])
        self.assertEqual(tape.play(9, 20), [self.step(20, 2)])
        self.assertEqual(tape.play(6, 8), [])
        self.assertEqual(tape.play(30, 99), [])
        self.assertEqual(tape.play(5, 1000000), [self.step(9, 1), self.step(20, 2), self.step(30, 3)])

    def test_equal_times(self):
        tape = tape_with(20, 5, 5, 9, 9, 9)
        self.assertEqual(tape.play(5, 5), [])
        self.assertEqual(tape.play(5, 9), [self.step(9, 2), self.step(9, 3), self.step(9, 4)])
        self.assertEqual(tape.play(9, 9), [])

    def test_key_frames_are_no_exception(self):
        tape = tape_with(1, 5, 9, 20)
        self.assertEqual(tape.play(5, 20), [self.step(9, 1), self.step(20, 2)])

    def test_an_end_before_the_start(self):
        tape = tape_with(2, 5, 9)
        self.refused(tape, "end is before start", tape.play, 9, 8)
        self.refused(tape, "end is before start", tape.play, 6, 5)

    def test_no_frame_at_the_start(self):
        tape = tape_with(2, 5, 9)
        self.refused(tape, "no frame", tape.play, 4, 9)
        self.refused(tape, "no frame", tape.play, 0, 0)
        self.refused(Tape(2), "no frame", Tape(2).play, 3, 5)

    def test_both_errors(self):
        tape = tape_with(2, 5, 9)
        self.refused(tape, "end is before start", tape.play, 4, 3)

    def test_the_texts_show_the_frames(self):
        chance = chances(44)
        for interval in (1, 2, 7, 20):
            tape, frames = drawn_tape(chance, interval, 20)
            for start in (frames[0][0], frames[5][0], frames[5][0] + 1):
                shown = tape.at(start)
                for time, told in tape.play(start, frames[-1][0]):
                    shown = applied(shown, told)
                    self.assertIn((time, shown), frames)
                self.assertEqual(shown, frames[-1][1])

    def test_all_frames(self):
        tape = tape_with(7, *range(60))
        self.assertEqual(tape.play(0, 59), [self.step(number, number) for number in range(1, 60)])


class TestWithoutPauses(TapeCase):
    def times(self, tape):
        return [row[1] for row in tape.rows()]

    def test_times(self):
        tape = tape_with(2, 5, 5, 9, 20, 1000)
        for longest, times in ((0, [5] * 5), (1, [5, 5, 6, 7, 8]), (4, [5, 5, 9, 13, 17]), (5, [5, 5, 9, 14, 19]),
                               (11, [5, 5, 9, 20, 31]), (979, [5, 5, 9, 20, 999]), (980, [5, 5, 9, 20, 1000]),
                               (1000000, [5, 5, 9, 20, 1000])):
            self.assertEqual(self.times(tape.without_pauses(longest)), times, longest)

    def test_interval_and_screens_are_the_same(self):
        tape = tape_with(3, 5, 9, 20, 30)
        shorter = tape.without_pauses(2)
        self.assertEqual(shorter.numbers(), (3, 4, 6))
        self.assertEqual([shorter.at(time) for time in (5, 7, 9, 11)], [screen(number) for number in range(4)])
        self.assertEqual([row[0] for row in shorter.rows()], ["key", "next", "next", "key"])

    def test_an_empty_tape(self):
        self.assertEqual(whole(Tape(4).without_pauses(3)), ((4, 0, 0), []))

    def test_the_tape_stays_as_it_was(self):
        tape = tape_with(2, 5, 9, 20)
        before = whole(tape)
        shorter = tape.without_pauses(0)
        self.assertEqual(whole(tape), before)
        shorter.add(7, BLANK)
        self.assertEqual(whole(tape), before)
        tape.add(99, NEW)
        self.assertEqual(shorter.numbers(), (2, 4, 2))
        same = tape.without_pauses(1000000)
        same.add(100, NEW)
        self.assertEqual((tape.numbers()[1], same.numbers()[1]), (4, 5))


class TestFind(unittest.TestCase):
    def find(self, string, *pictures):
        tape = Tape(2)
        for time, shown in enumerate(pictures):
            tape.add(time, look(2, 8, shown))
        return tape.find(text(string))

    def test_places_in_a_line(self):
        for shown in ("abcde", "xabc", "xxabcxx", "abc", "xxxxxabc", "x\r\nyabc", "ababc"):
            self.assertEqual(self.find("abc", shown), [0], shown)
        for shown in ("", "ab", "abxc", "acb", "ab\r\nc", "bc", "ABC", "abx", "xxxxxxabc"):
            self.assertEqual(self.find("abc", shown), [], shown)

    def test_single_characters(self):
        self.assertEqual(self.find("a", "", "a", "", "bba"), [1, 3])
        self.assertEqual(self.find("a", "b"), [])

    def test_a_whole_line(self):
        self.assertEqual(self.find("abcdefgh", "abcdefgh"), [0])
        self.assertEqual(self.find("abcdefghi", "abcdefgh"), [])

    def test_a_text_that_stays_and_comes_again(self):
        self.assertEqual(self.find("ab", "", "ab", "xab", "\r\nab", "a", "", "ab", "ab"), [1, 6])
        self.assertEqual(self.find("ab", "ab", "ab", "x", "ab"), [0, 3])

    def test_wide_characters(self):
        self.assertEqual(self.find("\xc4", "a", "a\xc4"), [1])
        self.assertEqual(self.find("a\xc4b", "a\xc4b"), [0])
        self.assertEqual(self.find("\xc4\xc5", "\xc4x\xc5", "\xc4\xc5"), [1])
        self.assertEqual(self.find("\xc4 ", "\xc4x", "\xc4 x"), [1])

    def test_spaces(self):
        self.assertEqual(self.find("a b", "ab", "a b"), [1])
        self.assertEqual(self.find(" b", "b", " b"), [1])
        # Spaces at the end of a line are no part of its text.
        self.assertEqual(self.find("a ", "a", "a \x1b[7m  "), [])
        self.assertEqual(self.find(" ", "", "a"), [])

    def test_styles_do_not_matter(self):
        self.assertEqual(self.find("abc", "a\x1b[7mb\x1b[31mc"), [0])

    def test_no_frames(self):
        self.assertEqual(self.find("a"), [])

    def test_the_text_stays(self):
        told = text("ab")
        tape = tape_with(2, 5)
        tape.find(told)
        self.assertEqual(told, text("ab"))


class TestRows(unittest.TestCase):
    def test_key_frames(self):
        for interval, keys in ((1, [0, 1, 2, 3, 4, 5, 6]), (2, [0, 2, 4, 6]), (3, [0, 3, 6]), (20, [0])):
            rows = tape_with(interval, *range(7)).rows()
            self.assertEqual([number for number in range(7) if rows[number][0] == "key"], keys)

    def test_key_frames_up_to_the_last_one(self):
        rows = tape_with(20, *range(60)).rows()
        self.assertEqual([number for number in range(60) if rows[number][0] == "key"], [0, 20, 40])

    def test_texts(self):
        rows = tape_with(2, 5, 9, 20).rows()
        self.assertEqual(rows, [("key", 5, 2, 8, difference(BLANK, screen(0))),
                                ("next", 9, difference(screen(0), screen(1))),
                                ("key", 20, 2, 8, difference(BLANK, screen(2)))])

    def test_they_are_the_callers(self):
        tape = tape_with(2, 5, 9)
        rows = tape.rows()
        kept = [(*row[:-1], list(row[-1])) for row in rows]
        rows[0][-1].clear()
        rows[1][-1].append(97)
        rows.pop()
        self.assertEqual(tape.rows(), kept)
        played = tape.play(5, 9)
        played[0][1].clear()
        played.clear()
        self.assertEqual(tape.play(5, 9), [kept[1][1:]])
        tape.find(text("0")).clear()
        self.assertEqual(tape.find(text("0")), [0])

    def test_tapes_share_nothing(self):
        first, second = Tape(2), Tape(2)
        first.add(5, BLANK)
        self.assertEqual(whole(second), ((2, 0, 0), []))

    def test_numbers_beyond_the_limits_are_no_errors(self):
        for interval, kinds in ((0, ["key", "next", "next"]), (21, ["key", "next", "next"]), (-1, ["key"] * 3)):
            tape = tape_with(interval, 0, 1000001, 2000000)
            self.assertEqual([row[0] for row in tape.rows()], kinds)
            self.assertEqual(whole(read_tape(interval, tape.rows())), whole(tape))
        self.assertEqual(tape_with(2, 0, 2000000).without_pauses(1500000).numbers(), (2, 2, 1500000))
        self.assertEqual(tape_with(2, 5).at(2000000), screen(0))
