"""Points 22 to 24: sequences that set something, replies, private sequences, and the pending new line."""

import unittest

from fardesk.styles import turned
from tests.helpers import (
    CSI, ESC, at, cursor, everything, filled, made, pending, picture, text, wrote,
)

FINALS = [chr(character) for character in range(64, 127)]
EFFECTIVE = "ABeCaDEFG`dHfIZJK@PXLMSTghlmrnct"
KEEPING = "mncg"


def modes(string, rows=4, columns=20):
    return made(rows, columns, string).modes()


class TestStops(unittest.TestCase):
    def test_the_stop_at_the_cursor(self):
        for numbers in ("", "0", ";3", "0;3"):
            self.assertEqual(modes(at(1, 8) + CSI + numbers + "g")["stops"], (16,))
            self.assertEqual(modes(at(1, 16) + CSI + numbers + "g")["stops"], (8,))
            self.assertEqual(modes(at(1, 9) + CSI + numbers + "g")["stops"], (8, 16))

    def test_all_stops(self):
        for numbers in ("3", "3;0"):
            self.assertEqual(modes(at(1, 8) + CSI + numbers + "g")["stops"], ())

    def test_other_numbers(self):
        for numbers in ("1", "2", "4", "5", "33", "1;3"):
            self.assertEqual(modes(at(1, 8) + CSI + numbers + "g")["stops"], (8, 16))


class TestInserting(unittest.TestCase):
    def test_each_number(self):
        for numbers in ("4", "4;9", "9;4", ";4", "4;4", "0;1;2;4;"):
            self.assertIs(modes(CSI + numbers + "h")["inserting"], True)
            self.assertIs(modes(CSI + "4h" + CSI + numbers + "l")["inserting"], False)

    def test_other_numbers(self):
        for numbers in ("", "0", "1", "3", "5", "6", "7", "20", "25", "40", "44", ";"):
            self.assertEqual(modes(CSI + numbers + "h"), modes(""))
            self.assertEqual(modes(CSI + "4h" + CSI + numbers + "l"), modes(CSI + "4h"))


class TestStyles(unittest.TestCase):
    def test_numbers_in_their_order(self):
        cases = {"": (0,), "0": (0,), ";": (0, 0), "1": (1,), "7;1": (7, 1), "1;;7": (1, 0, 7), ";4": (0, 4), "4;": (4, 0),
                 "31;32": (31, 32), "22": (22,), "39;49": (39, 49), "90;2;5": (90, 2, 5), "9999;1": (9999, 1)}
        for before in ("", "1", "4;33", "1;4;7;30;47"):
            style = turned((), [int(number) for number in before.split(";") if number])
            start = CSI + "0;" + before + "m"
            for numbers, wanted in cases.items():
                self.assertEqual(modes(start + CSI + numbers + "m")["style"], turned(style, wanted), (before, numbers))

    def test_only_the_first_16_numbers(self):
        self.assertEqual(modes(CSI + "1;" * 15 + "4;7m")["style"], (1, 4))


class TestMargins(unittest.TestCase):
    def test_margins(self):
        cases = {"": (0, 3), "0": (0, 3), ";": (0, 3), "0;0": (0, 3), "1;4": (0, 3), "2": (1, 3), "2;": (1, 3),
                 "2;0": (1, 3), "3": (2, 3), ";2": (0, 1), "0;3": (0, 2), "2;3": (1, 2), "3;4": (2, 3), "1;2;9": (0, 1)}
        for numbers, margins in cases.items():
            for before in ("", CSI + "2;3r"):
                terminal = made(4, 8, before + at(3, 5) + CSI + numbers + "r")
                self.assertEqual((terminal.modes()["margins"], cursor(terminal)), (margins, (0, 0)), numbers)

    def test_home_with_origin(self):
        terminal = made(4, 8, CSI + "?6h" + CSI + "2;2H" + CSI + "2;3r")
        self.assertEqual(cursor(terminal), (1, 0))
        self.assertEqual(cursor(made(4, 8, CSI + "?6h" + CSI + "2;3r" + CSI + "2;2H" + CSI + "r")), (0, 0))

    def test_wrong_numbers(self):
        for numbers in ("1;1", "2;2", "3;2", "4", "4;4", "5", "9999", "1;5", "2;9999", "5;6", "9;5"):
            terminal = made(4, 8, CSI + "2;3r" + at(3, 5) + CSI + numbers + "r")
            self.assertEqual((terminal.modes()["margins"], cursor(terminal)), ((1, 2), (3, 5)), numbers)

    def test_one_line(self):
        for numbers in ("", "1", "1;1", "0;0"):
            terminal = made(1, 8, at(0, 5) + CSI + numbers + "r")
            self.assertEqual((terminal.modes()["margins"], cursor(terminal)), ((0, 0), (0, 5)))


class TestReplies(unittest.TestCase):
    def test_state(self):
        for numbers in ("5", "5;6", "05"):
            self.assertEqual(wrote(made(4, 20), CSI + numbers + "n"), CSI + "0n")

    def test_place(self):
        for row, column in ((0, 0), (3, 19), (11, 39), (9, 9)):
            self.assertEqual(wrote(made(12, 40, at(row, column)), CSI + "6n"), f"{CSI}{row + 1};{column + 1}R")

    def test_place_with_margins_and_without_origin(self):
        self.assertEqual(wrote(made(4, 8, CSI + "2;3r" + at(3, 4)), CSI + "6;5n"), CSI + "4;5R")

    def test_place_with_origin(self):
        for row, wanted in ((0, 1), (1, 1), (2, 1), (3, 2), (4, 3), (5, 4)):
            terminal = made(6, 8, at(row, 4) + ESC + "7" + CSI + "3;5r" + CSI + "?6h" + ESC + "8")
            self.assertEqual(cursor(terminal), (row, 4))
            self.assertEqual(wrote(terminal, CSI + "6n"), f"{CSI}{wanted};5R")

    def test_place_while_a_new_line_is_pending(self):
        terminal = made(2, 4, "abcd")
        self.assertEqual(wrote(terminal, CSI + "6n"), CSI + "1;4R")

    def test_kind(self):
        for numbers in ("", "0", ";", ";5", "0;1"):
            self.assertEqual(wrote(made(4, 20), CSI + numbers + "c"), CSI + "?6c")

    def test_no_reply(self):
        for sequence in ("n", "0n", "1n", "4n", "7n", ";5n", ";6n", "15n", "1c", "6c", "9999c", "1;0c",
                         "?5n", "?6n", "?c", "?0c", "5m", "6R", ">c", "5 n"):
            self.assertEqual(wrote(made(4, 20), CSI + sequence), "", sequence)

    def test_a_reply_does_not_change_the_terminal(self):
        for string in ("abcd", "ab" + CSI + "?6h" + CSI + "7m", "\r\n\n\n"):
            terminal = made(2, 4, string)
            before = everything(terminal)
            for sequence in ("5n", "6n", "c", "0c", "7n", "1c"):
                wrote(terminal, CSI + sequence)
                self.assertEqual(everything(terminal), before, sequence)

    def test_the_replies_are_joined_in_their_order(self):
        terminal = made(3, 8)
        self.assertEqual(wrote(terminal, "a" + CSI + "6n" + CSI + "5n" + "b" + CSI + "c" + "\r\n" + CSI + "6n"),
                         CSI + "1;2R" + CSI + "0n" + CSI + "?6c" + CSI + "2;1R")


class TestPrivate(unittest.TestCase):
    def test_application(self):
        self.assertIs(modes(CSI + "?1h")["application"], True)
        self.assertIs(modes(CSI + "?1h" + CSI + "?1l")["application"], False)

    def test_origin(self):
        for final, origin, home in (("h", True, (1, 0)), ("l", False, (0, 0))):
            for before in ("", CSI + "?6h", CSI + "?6l"):
                terminal = made(4, 8, CSI + "2;3r" + before + CSI + "2;5H" + CSI + "?6" + final)
                self.assertEqual((terminal.modes()["origin"], cursor(terminal)), (origin, home))

    def test_wrapping(self):
        self.assertIs(modes(CSI + "?7l")["wrapping"], False)
        self.assertIs(modes(CSI + "?7l" + CSI + "?7h")["wrapping"], True)

    def test_visibility(self):
        self.assertIs(made(2, 8, CSI + "?25l").screen()[2], False)
        self.assertIs(made(2, 8, CSI + "?25l" + CSI + "?25h").screen()[2], True)

    def test_bracketing(self):
        self.assertIs(modes(CSI + "?2004h")["bracketing"], True)
        self.assertIs(modes(CSI + "?2004h" + CSI + "?2004l")["bracketing"], False)

    def test_each_alone(self):
        names = {"1": "application", "6": "origin", "7": "wrapping", "2004": "bracketing"}
        for number, name in names.items():
            before = modes(CSI + "?7l" if name == "wrapping" else "")
            on = modes(CSI + "?7l" + CSI + "?" + number + "h" if name == "wrapping" else CSI + "?" + number + "h")
            self.assertEqual([key for key in before if before[key] != on[key]], [name])

    def test_several_numbers_in_their_order(self):
        terminal = made(4, 8, CSI + "2;3r" + at(3, 3) + CSI + "?1;2004;7;6;25l" + CSI + "?2004;1;6;99;;7h")
        after = terminal.modes()
        self.assertEqual([after[key] for key in ("application", "bracketing", "wrapping", "origin")], [True] * 4)
        self.assertEqual((terminal.screen()[2], cursor(terminal)), (False, (1, 0)))
        first = made(4, 8, CSI + "2;3r" + at(3, 3) + CSI + "?6;1049h")
        self.assertEqual(first.modes()["saved"], ((1, 0), ()))
        second = made(4, 8, CSI + "2;3r" + at(3, 3) + CSI + "?1049;6h")
        self.assertEqual(second.modes()["saved"], ((3, 3), ()))

    def test_only_the_first_16_numbers(self):
        self.assertIs(modes(CSI + "?" + "9;" * 15 + "1h")["application"], True)
        self.assertIs(modes(CSI + "?" + "9;" * 16 + "1h")["application"], False)

    def test_other_numbers_have_no_effect(self):
        for number in ("", "0", ";", "2", "3", "4", "5", "8", "12", "24", "26", "47", "1047", "1048", "1050", "2003", "2005"):
            for string in ("ab" + CSI + "7m", CSI + "?1;6;25;2004h" + CSI + "?7l", CSI + "?1049hab"):
                for final in "hl":
                    terminal = made(4, 8, string)
                    before = everything(terminal)
                    terminal.write(text(CSI + "?" + number + final))
                    self.assertEqual(everything(terminal), before, (number, final))

    def test_other_finals_have_no_effect(self):
        for final in FINALS:
            if final in "hl":
                continue
            for numbers in ("", "1", "2", "4", "6", "25", "8;5;9", "1049"):
                terminal = filled(4, 8, at(1, 2) + CSI + "7m")
                before = everything(terminal)
                self.assertEqual(wrote(terminal, CSI + "?" + numbers + final), "")
                self.assertEqual(everything(terminal), before, (numbers, final))

    def test_numbers_that_are_private_have_no_effect_otherwise(self):
        for number in ("1", "6", "7", "25", "2004", "1049"):
            for final in "hl":
                terminal = made(4, 8, at(1, 2))
                before = everything(terminal)
                terminal.write(text(CSI + number + final))
                self.assertEqual(everything(terminal), before, (number, final))


class TestOtherScreen(unittest.TestCase):
    def test_there_and_back(self):
        terminal = filled(2, 4, at(1, 2) + CSI + "7m")
        main = terminal.screen()
        terminal.write(text(CSI + "?1049h"))
        self.assertEqual((picture(terminal), cursor(terminal)), (["    "] * 2, (1, 2)))
        after = terminal.modes()
        self.assertEqual((after["other"], after["saved"], after["style"]), (True, ((1, 2), (7,)), (7,)))
        terminal.write(text(CSI + "H" + CSI + "0;1mxy" + CSI + "?1049l"))
        self.assertEqual(terminal.screen(), main)
        after = terminal.modes()
        self.assertEqual((after["other"], after["saved"], after["style"]), (False, ((1, 2), (7,)), (7,)))

    def test_twice_in_a_row(self):
        terminal = filled(2, 4, at(1, 2) + CSI + "?1049h" + at(0, 0) + CSI + "4mab")
        before = everything(terminal)
        terminal.write(text(CSI + "?1049h"))
        self.assertEqual(everything(terminal), before)
        terminal.write(text(CSI + "?1049l" + at(0, 1) + "X"))
        before = everything(terminal)
        terminal.write(text(CSI + "?1049l"))
        self.assertEqual(everything(terminal), before)
        self.assertEqual(picture(terminal), ["0X23", "4567"])

    def test_it_is_blank_each_time(self):
        terminal = filled(2, 4, CSI + "?1049habcd" + CSI + "?1049l" + CSI + "?1049h")
        self.assertEqual(picture(terminal), ["    "] * 2)

    def test_back_when_it_was_never_current(self):
        terminal = filled(2, 4, at(1, 2) + CSI + "7m")
        before = everything(terminal)
        terminal.write(text(CSI + "?1049l"))
        self.assertEqual(everything(terminal), before)

    def test_escape_7_on_the_other_screen_changes_what_is_restored(self):
        terminal = filled(3, 4, at(1, 2) + CSI + "?1049h" + at(2, 3) + CSI + "1m" + ESC + "7" + at(0, 0) + CSI + "?1049l")
        self.assertEqual((cursor(terminal), terminal.modes()["style"]), ((2, 3), (1,)))

    def test_title_visibility_margins_and_modes_belong_to_the_terminal(self):
        terminal = made(4, 8, CSI + "?1049h" + CSI + "2;3r" + CSI + "?25l" + CSI + "4h" + ESC + "]0;a\x07" + CSI + "?1049l")
        self.assertEqual(terminal.screen()[2:], (False, (97,)))
        self.assertEqual((terminal.modes()["margins"], terminal.modes()["inserting"]), ((1, 2), True))


class TestPending(unittest.TestCase):
    """A new line is pending before each of these sequences; the cursor stands in the last cell of line 0."""

    def test_finals_of_sequences_that_are_not_private(self):
        for final in FINALS:
            for numbers in ("", "0", "1", "2", "4", "7", "8;2;4", "9999", "5;6"):
                terminal = made(2, 4, "abcd")
                wrote(terminal, CSI + numbers + final)
                wanted = final in KEEPING or final not in EFFECTIVE
                self.assertIs(pending(terminal), wanted, (numbers, final))

    def test_finals_of_private_sequences(self):
        for final in FINALS:
            for numbers in ("", "1", "2", "7", "25", "99", "1049"):
                terminal = made(2, 4, "abcd")
                wrote(terminal, CSI + "?" + numbers + final)
                self.assertIs(pending(terminal), final not in "hl", (numbers, final))

    def test_spoiled_sequences(self):
        for final in "HJhm":
            self.assertIs(pending(made(2, 4, "abcd" + CSI + "1 " + final)), True)

    def test_none_becomes_pending(self):
        for final in FINALS:
            for private in ("", "?"):
                terminal = made(2, 4, "abc")
                wrote(terminal, CSI + private + "7" + final)
                self.assertIs(pending(terminal), False, (private, final))

    def test_finals_without_an_effect(self):
        for final in FINALS:
            if final in EFFECTIVE:
                continue
            for numbers in ("", "1", "2", "3;4"):
                terminal = filled(3, 8, at(1, 2))
                before = everything(terminal)
                self.assertEqual(wrote(terminal, CSI + numbers + final), "")
                self.assertEqual(everything(terminal), before, (numbers, final))
