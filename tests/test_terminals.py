import unittest

from fardesk.keys import key_text
from fardesk.lines import blank_line, line_text
from fardesk.screens import blank_screen, is_screen, screen_text
from fardesk.terminals import Terminal, showing
from tests.helpers import CSI, ESC, at, everything, filled, filled_text, made, past, text, wrote

NOT_PLAIN = {
    "another style": CSI + "1m",
    "a top margin": CSI + "2r",
    "a bottom margin": CSI + "1;2r",
    "wrapping off": CSI + "?7l",
    "inserting": CSI + "4h",
    "origin": CSI + "?6h",
    "bracketing": CSI + "?2004h",
    "the other screen": CSI + "?1049h",
    "a pending new line": "abcdefgh",
    "an escape": ESC,
    "an escape with more parts": ESC + "(",
    "a sequence": CSI,
    "a spoiled sequence": CSI + "1 ",
    "a command": ESC + "]0;a",
    "an escaped command": ESC + "]0;a" + ESC,
}
PLAIN_AGAIN = {
    "another style": CSI + "m",
    "a top margin": CSI + "r",
    "a bottom margin": CSI + "r",
    "wrapping off": CSI + "?7h",
    "inserting": CSI + "4l",
    "origin": CSI + "?6l",
    "bracketing": CSI + "?2004l",
    "the other screen": CSI + "?1049l",
    "a pending new line": "\r",
    "an escape": "D",
    "an escape with more parts": "B",
    "a sequence": "A",
    "a spoiled sequence": "A",
    "a command": "\x07",
    "an escaped command": "\\",
}


def first_modes(rows, columns):
    return {
        "style": (), "margins": (0, rows - 1), "wrapping": True, "inserting": False, "origin": False,
        "bracketing": False, "application": False, "pending": False,
        "stops": tuple(stop for stop in (8, 16, 24, 32) if stop < columns),
        "other": False, "saved": ((0, 0), ()), "state": ("ground",),
    }


class TestNewTerminal(unittest.TestCase):
    def test_everything(self):
        for rows, columns in ((1, 2), (3, 8), (3, 9), (4, 17), (12, 40)):
            terminal = Terminal(rows, columns)
            self.assertEqual(terminal.screen(), blank_screen(rows, columns))
            self.assertEqual(terminal.modes(), first_modes(rows, columns))
            self.assertEqual(terminal.history(), [])
            self.assertIs(terminal.is_plain(), True)

    def test_write_returns_an_empty_text(self):
        self.assertEqual(Terminal(2, 8).write([]), [])
        self.assertEqual(Terminal(2, 8).write([97]), [])


class TestModes(unittest.TestCase):
    def changed(self, string):
        """The modes that a string changes in a terminal with 3 rows and 20 columns."""
        before = first_modes(3, 20)
        after = made(3, 20, string).modes()
        self.assertEqual(sorted(after), sorted(before))
        return {key: after[key] for key in after if after[key] != before[key]}

    def test_each_mode(self):
        self.assertEqual(self.changed(CSI + "1;44m"), {"style": (1, 44)})
        self.assertEqual(self.changed(CSI + "2;3r"), {"margins": (1, 2)})
        self.assertEqual(self.changed(CSI + "?7l"), {"wrapping": False})
        self.assertEqual(self.changed(CSI + "4h"), {"inserting": True})
        self.assertEqual(self.changed(CSI + "?6h"), {"origin": True})
        self.assertEqual(self.changed(CSI + "?2004h"), {"bracketing": True})
        self.assertEqual(self.changed(CSI + "?1h"), {"application": True})
        self.assertEqual(self.changed("x" * 20), {"pending": True})
        self.assertEqual(self.changed(CSI + "3g"), {"stops": ()})
        self.assertEqual(self.changed(ESC + "H"), {"stops": (0, 8, 16)})
        self.assertEqual(self.changed(CSI + "?1049h"), {"other": True})
        self.assertEqual(self.changed("ab" + ESC + "7"), {"saved": ((0, 2), ())})
        self.assertEqual(self.changed(CSI + "?1;2"), {"state": ("sequence", True, (1, 2), False)})
        self.assertEqual(self.changed(ESC + "]0;"), {"state": ("command", (48, 59), False)})
        self.assertEqual(self.changed("abc\r\n\t" + ESC + "]0;ab\x07" + CSI + "?25l"), {})

    def test_modes_that_are_on_or_off_are_bools(self):
        modes = made(3, 20, CSI + "4h" + CSI + "?6h" + CSI + "?1;2004;1049h" + "x" * 20).modes()
        for key in ("wrapping", "inserting", "origin", "bracketing", "application", "pending", "other"):
            self.assertIs(modes[key], True, key)


class TestPlain(unittest.TestCase):
    def test_each_change_and_back(self):
        self.assertEqual(sorted(NOT_PLAIN), sorted(PLAIN_AGAIN))
        for what, string in NOT_PLAIN.items():
            terminal = made(3, 8, string)
            self.assertIs(terminal.is_plain(), False, what)
            terminal.write(text(PLAIN_AGAIN[what]))
            self.assertIs(terminal.is_plain(), True, what)

    def test_what_leaves_it_plain(self):
        for string in ("abc", "\r\n\n\n", CSI + "?1h", CSI + "?25l", ESC + "]0;a\x07", ESC + "7", ESC + "H",
                       CSI + "3g", CSI + "1;3r", CSI + "0m", at(1, 7)):
            self.assertIs(made(3, 8, string).is_plain(), True, string)

    def test_margins_of_one_line(self):
        self.assertIs(made(1, 8, CSI + "1;1r" + CSI + "r").is_plain(), True)


class TestHistory(unittest.TestCase):
    def test_lines_join_it_in_their_order(self):
        terminal = made(2, 8, "a\r\nb\r\n" + CSI + "7mc\r\n")
        self.assertEqual([line_text(line) for line in terminal.history()], [[97], [98]])
        self.assertEqual(wrote(terminal, "\n"), "")
        self.assertEqual(terminal.history()[2], ((99, (7,)),) + blank_line(7))

    def test_the_newest_200_lines_are_kept(self):
        for many in (199, 200, 201, 202, 230):
            terminal = made(2, 4, "\r\n".join(str(number) for number in range(many + 2)))
            wanted = [str(number).ljust(4) for number in range(many)][-200:]
            self.assertEqual(past(terminal), wanted, many)

    def test_the_newest_200_lines_when_many_join_at_once(self):
        terminal = made(5, 4, "\r\n".join(str(number) for number in range(203)) + CSI + "5S")
        self.assertEqual(past(terminal), [str(number).ljust(4) for number in range(3, 203)])

    def test_lines_keep_their_columns(self):
        terminal = made(1, 6, "abcdef\n")
        terminal.resize(1, 3)
        terminal.write(text("\rxyz\n"))
        terminal.resize(2, 8)
        self.assertEqual(past(terminal), ["abcdef", "xyz"])

    def test_only_the_main_screen_has_one(self):
        terminal = made(2, 4, CSI + "?1049h" + "a\r\nb\r\nc" + CSI + "2S")
        self.assertEqual(terminal.history(), [])
        terminal.write(text(CSI + "?1049l\r\nd\r\ne"))
        self.assertEqual(past(terminal), ["    "])

    def test_only_with_the_first_line_between_the_margins(self):
        self.assertEqual(made(3, 4, CSI + "2;3r" + CSI + "S").history(), [])
        self.assertEqual(made(3, 4, CSI + "2;3r" + at(2, 0) + "\n\n").history(), [])
        self.assertEqual(past(made(3, 4, "a" + CSI + "1;2r" + at(1, 0) + "\n")), ["a   "])


class TestPressAndPaste(unittest.TestCase):
    def test_press(self):
        for keys, application in (("", False), (CSI + "?1h", True), (CSI + "?1h" + CSI + "?1l", False)):
            terminal = made(2, 8, keys)
            for key in (97, 200, "enter", "up", "end", "page up"):
                self.assertEqual(terminal.press(key), key_text(key, application))
        self.assertEqual(made(2, 8, CSI + "?1h").press("up"), text(ESC + "OA"))

    def test_paste(self):
        self.assertEqual(made(2, 8).paste(text("a\rb\n")), text("ab\n"))
        terminal = made(2, 8, CSI + "?2004h")
        self.assertEqual(terminal.paste(text("a\rb\n")), text(CSI + "200~ab\n" + CSI + "201~"))
        terminal.write(text(CSI + "?2004l"))
        self.assertEqual(terminal.paste(text("a\tb")), text("a\tb"))

    def test_they_change_nothing(self):
        terminal = made(2, 8, "abc" + CSI + "?1;2004h")
        before = everything(terminal)
        given = text("a\rb")
        terminal.press("up")
        terminal.press(97)
        terminal.paste(given)
        self.assertEqual(everything(terminal), before)
        self.assertEqual(given, text("a\rb"))


class TestExample(unittest.TestCase):
    def test_example(self):
        terminal = Terminal(2, 8)
        self.assertEqual(terminal.write(text("ls\r\n" + CSI + "1")), [])
        self.assertEqual(terminal.write(text("ma.t" + CSI + "0m")), [])
        self.assertEqual(screen_text(terminal.screen()), [text("ls"), text("a.t")])
        self.assertEqual(terminal.screen()[0][1][0], (97, (1,)))
        self.assertEqual(terminal.write(text(CSI + "6n")), text(CSI + "2;4R"))
        terminal.write(text("\r\nx"))
        self.assertEqual([line_text(line) for line in terminal.history()], [text("ls")])


class TestShowing(unittest.TestCase):
    def check(self, screen):
        terminal = showing(screen)
        rows, columns = len(screen[0]), len(screen[0][0])
        self.assertEqual(terminal.screen(), screen)
        self.assertEqual(terminal.modes(), first_modes(rows, columns))
        self.assertEqual(terminal.history(), [])
        self.assertIs(terminal.is_plain(), True)
        return terminal

    def test_screens(self):
        self.check(blank_screen(1, 2))
        self.check(blank_screen(12, 40))
        writer = filled(3, 9, at(1, 2) + CSI + "7m\xc4" + ESC + "]2;a title\x07" + CSI + "?25l")
        self.check(writer.screen())
        self.check((blank_screen(4, 20)[0], (3, 19), False, (97,) * 40))

    def test_its_lines_are_those_of_the_main_screen(self):
        screen = filled(2, 4, at(1, 1)).screen()
        terminal = self.check(screen)
        terminal.write(text(CSI + "?1049h"))
        self.assertEqual(terminal.screen()[0], blank_screen(2, 4)[0])
        terminal.write(text("ab" + CSI + "?1049l"))
        self.assertEqual(terminal.screen(), screen)

    def test_each_is_a_new_one(self):
        screen = filled(2, 4, at(1, 1)).screen()
        first = showing(screen)
        second = showing(screen)
        first.write(text("x" + CSI + "2J"))
        self.assertEqual(second.screen(), screen)


class TestOwnership(unittest.TestCase):
    def test_what_is_returned_is_the_callers(self):
        terminal = filled(2, 8, "\r\nab" + CSI + "1m")
        before = everything(terminal)
        terminal.history().append(blank_line(8))
        terminal.history().clear()
        modes = terminal.modes()
        modes["style"] = (7,)
        modes["wrapping"] = False
        modes.pop("stops")
        terminal.press("up").append(1)
        terminal.paste([97]).append(1)
        terminal.write([]).append(1)
        self.assertEqual(everything(terminal), before)
        self.assertEqual(terminal.write([]), [])

    def test_replies_are_new_lists(self):
        terminal = Terminal(2, 8)
        first = terminal.write(text(CSI + "5n"))
        first.append(1)
        self.assertEqual(terminal.write(text(CSI + "5n")), text(CSI + "0n"))

    def test_what_was_returned_stays_as_it_was(self):
        terminal = filled(2, 8)
        screen, modes, history, _ = everything(terminal)
        kept = str((screen, modes, history))
        terminal.write(text("\r\n\nx" + CSI + "1m" + CSI + "2J" + CSI + "?1049h"))
        terminal.resize(3, 5)
        self.assertEqual(str((screen, modes, history)), kept)

    def test_lists_that_were_handed_in(self):
        terminal = Terminal(2, 8)
        given = text("ab" + ESC + "]0;title\x07" + CSI + "1")
        terminal.write(given)
        self.assertEqual(given, text("ab" + ESC + "]0;title\x07" + CSI + "1"))
        before = everything(terminal)
        given.clear()
        given.extend(text("xyz"))
        self.assertEqual(everything(terminal), before)

    def test_terminals_share_nothing(self):
        first, second = Terminal(2, 8), Terminal(2, 8)
        first.write(text("ab\r\n\n\n" + ESC + "7" + ESC + "H"))
        self.assertEqual(everything(second), everything(Terminal(2, 8)))


class TestPieces(unittest.TestCase):
    STRING = ("ab\xc4" + ESC + "7" + CSI + "1;44mcd" + CSI + "?25l" + ESC + "]2;a title" + ESC + "\\" + CSI + "6n"
              + CSI + "2;3r\nx" + CSI + "5n" + ESC + "(B" + CSI + "1 2q" + ESC + "]0;\x18" + CSI + "1;10000;;7m" + "\n\n\n"
              + CSI + "c" + ESC + "8" + ESC + "]0;new\x07" + CSI + "4h" + "yz" + CSI + "1;1")

    def test_one_text_cut_at_every_place(self):
        given = text(self.STRING)
        whole = Terminal(4, 6)
        replies = whole.write(given)
        self.assertEqual("".join(chr(sign) for sign in replies), CSI + "1;6R" + CSI + "0n" + CSI + "?6c")
        for place in range(len(given) + 1):
            terminal = Terminal(4, 6)
            self.assertEqual(terminal.write(given[:place]) + terminal.write(given[place:]), replies, place)
            self.assertEqual(everything(terminal), everything(whole), place)

    def test_one_character_after_the_other(self):
        whole, terminal = Terminal(4, 6), Terminal(4, 6)
        whole.write(text(self.STRING))
        for character in text(self.STRING):
            terminal.write([character])
            self.assertIs(is_screen(terminal.screen()), True)
        self.assertEqual(everything(terminal), everything(whole))

    def test_replies_in_their_order(self):
        terminal = made(3, 8, filled_text(1, 3))
        self.assertEqual(wrote(terminal, CSI + "6n" + CSI + "c" + "a" + CSI + "5n" + CSI + "6n"),
                         CSI + "1;4R" + CSI + "?6c" + CSI + "0n" + CSI + "1;5R")


class TestSizesBeyondTheRanges(unittest.TestCase):
    STRING = ("ab\xc4c\r\n\t\x08" + ESC + "7" + ESC + "M" + ESC + "8" + CSI + "4h\xc5d" + CSI + "2;3H" + CSI + "J" + CSI
              + "1J" + CSI + "@" + CSI + "P" + CSI + "X" + CSI + "L" + CSI + "M" + CSI + "S" + CSI + "T" + CSI + "I" + CSI
              + "Z" + CSI + "r" + CSI + "?1049hx" + CSI + "?1049l" + CSI + "6n")

    def test_they_are_no_errors(self):
        for rows in (0, 1, 12, 13, 20):
            for columns in (0, 1, 2, 40, 41, 60):
                terminal = Terminal(rows, columns)
                terminal.write(text(self.STRING))
                for size in ((columns, rows), (0, 0), (13, 41), (3, 1)):
                    terminal.resize(*size)
                    terminal.write(text(self.STRING + ESC + "c" + self.STRING))

    def test_greater_sizes_are_taken_as_they_are(self):
        for size in ((13, 41), (20, 60)):
            self.assertEqual(Terminal(*size).screen(), blank_screen(*size))
            terminal = Terminal(2, 8)
            terminal.resize(*size)
            self.assertEqual(terminal.screen(), blank_screen(*size))


class TestAnyText(unittest.TestCase):
    def test_the_result_is_always_a_screen(self):
        signs = text("ab\xc4\xff\x80\x08\t\n\r[]?;01248hlmrHJKLMPSTXABCD@dgIZtnc" + ESC * 9 + "[[[[[[[[")
        number = 1
        for size in ((1, 2), (2, 3), (4, 9), (12, 40)):
            terminal = Terminal(*size)
            for _ in range(4000):
                # A fixed row of numbers that looks random, so that each run is the same.
                number = (number * 1103515245 + 12345) % 2 ** 31
                terminal.write([signs[(number >> 8) % len(signs)]])
                screen = terminal.screen()
                top, bottom = terminal.modes()["margins"]
                self.assertIs(is_screen(screen), True)
                self.assertTrue(0 <= top <= bottom < len(screen[0]))
