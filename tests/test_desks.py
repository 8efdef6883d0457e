import unittest

from fardesk.desks import Desk, run_keys
from fardesk.programs import Program
from fardesk.screens import blank_screen
from tests.afar import ECHO, EDITOR
from tests.helpers import line_picture, look, text

KEYS = [97, 196, "enter", "back", 98, "up", "left", 99, "tab", 33, "page down", "home", "end", 120, "escape", 65]


def picture(desk):
    return [line_picture(line) for line in desk.screen()[0]]


def desk_of(rules, rows=2, columns=8):
    return Desk(Program(rules), rows, columns)


class Counting:
    """A program that counts what it reads."""

    def __init__(self, rules):
        self.program = Program(rules)
        self.seen = []

    def read(self, state, character):
        self.seen.append(character)
        return self.program.read(state, character)


class TestKeys(unittest.TestCase):
    def test_a_new_desk(self):
        desk = desk_of(ECHO, 3, 5)
        self.assertEqual((desk.screen(), desk.state(), desk.done()), (blank_screen(3, 5), 0, 0))

    def test_echo(self):
        desk = desk_of(ECHO)
        for number, key in enumerate((97, 98, 196), 1):
            self.assertEqual(desk.press(key), number)
            self.assertEqual(desk.done(), number)
        self.assertEqual(picture(desk), ["ab\xc4~    ", " " * 8])
        self.assertEqual(desk.screen()[1], (0, 4))

    def test_each_character_of_a_key_is_read(self):
        rules = [(0, None, 1, (48, 256)), (1, None, 2, (49, 256)), (2, None, 3, (50, 256)), (3, None, 0, (51, 256))]
        desk = desk_of(rules, 2, 10)
        desk.press("page up")
        self.assertEqual(desk.state(), 0)
        # 27, [, 5 and ~ were read; the 27 that is written makes the digit behind it an escape.
        self.assertEqual(picture(desk)[0], look_of("0\x1b1[253~"))
        desk.press(65)
        self.assertEqual((desk.state(), desk.done()), (1, 2))

    def test_states(self):
        rules = [(0, 97, 1, ()), (1, 97, 2, (49,)), (2, None, 0, (50,)), (1, None, 3, (120,))]
        desk = desk_of(rules)
        told = []
        for key in (98, 97, 97, 98, 97, 98, 97):
            desk.press(key)
            told.append((desk.state(), picture(desk)[0].rstrip()))
        self.assertEqual(told, [(0, ""), (1, ""), (2, "1"), (0, "12"), (1, "12"), (3, "12x"), (3, "12x")])

    def test_a_key_without_an_effect_counts(self):
        desk = desk_of([])
        self.assertEqual([desk.press(key) for key in (97, "up", 98)], [1, 2, 3])
        self.assertEqual((desk.screen(), desk.done()), (blank_screen(2, 8), 3))

    def test_the_program_is_shared_but_not_its_state(self):
        program = Program([(0, None, 1, (256,)), (1, None, 1, (45,))])
        one, two = Desk(program, 1, 8), Desk(program, 1, 8)
        one.press(97)
        one.press(98)
        two.press(99)
        self.assertEqual((picture(one), picture(two)), (["a-      "], ["c       "]))


def look_of(string):
    """The first line of a terminal that has read a string."""
    return line_picture(look(2, 10, string)[0][0])


class TestApplication(unittest.TestCase):
    # a turns application on, b off; all else is read and shown, but 27.
    RULES = ((0, 97, 0, (27, 91, 63, 49, 104)), (0, 98, 0, (27, 91, 63, 49, 108)), (0, 27, 0, (46,)), (0, None, 0, (256,)))

    def test_on_and_off(self):
        desk = desk_of(self.RULES, 1, 16)
        for key in ("up", 97, "up", "delete", 98, "up"):
            desk.press(key)
        self.assertEqual(picture(desk), [".[A.OA.[3~.[A   "])

    def test_the_mode_counts_when_the_key_is_pressed(self):
        # The desk reads the whole text of the key, also if its first character changes the mode.
        rules = ((0, 27, 0, (27, 91, 63, 49, 104)), (0, None, 0, (256,)))
        desk = desk_of(rules, 1, 12)
        desk.press("up")
        self.assertEqual(picture(desk), ["[A          "])
        desk.press("up")
        self.assertEqual(picture(desk), ["[AOA        "])


class TestReplies(unittest.TestCase):
    def test_a_report_is_read(self):
        # ? asks for the place of the cursor; the reply is read as keys are, and shown but for its 27.
        rules = ((0, 63, 0, (27, 91, 54, 110)), (0, 27, 0, ()), (0, None, 0, (256,)))
        desk = desk_of(rules, 2, 12)
        desk.press(97)
        desk.press(63)
        self.assertEqual(picture(desk)[0], "a[1;2R      ")
        self.assertEqual((desk.done(), desk.state()), (2, 0))

    def test_replies_join_at_the_end(self):
        # The first character of the key asks; the others of the key are read before the reply.
        rules = ((0, 27, 1, (27, 91, 53, 110)), (1, 27, 2, (33,)), (1, None, 1, (256,)), (2, None, 2, (256,)))
        desk = desk_of(rules, 2, 12)
        desk.press("up")
        self.assertEqual(picture(desk)[0], "[A![0n      ")
        self.assertEqual(desk.state(), 2)

    def test_20_characters_are_read(self):
        # Each character that is read asks for a report, so there is no end.
        program = Counting([(0, None, 0, (27, 91, 53, 110))])
        desk = Desk(program, 1, 8)
        self.assertEqual(desk.press(97), 1)
        self.assertEqual(program.seen, [97] + ([27] + text("[0n")) * 4 + [27] + text("[0"))
        # What waited then is lost: the next key begins anew.
        self.assertEqual(desk.press(98), 2)
        self.assertEqual(program.seen[20:], [98] + ([27] + text("[0n")) * 4 + [27] + text("[0"))

    def test_exactly_20(self):
        # Four reports of four characters behind the key of four: all are read.
        rules = [(state, 27, state + 1, (27, 91, 53, 110)) for state in range(4)] + [(4, 27, 5, ())]
        program = Counting(rules)
        desk = Desk(program, 1, 8)
        desk.press("delete")
        self.assertEqual(len(program.seen), 20)
        self.assertEqual((program.seen[-1], desk.state()), (110, 5))
        # One report more, and it is lost.
        program = Counting([(state, 27, state + 1, (27, 91, 53, 110)) for state in range(6)])
        desk = Desk(program, 1, 8)
        desk.press("delete")
        self.assertEqual((len(program.seen), desk.state()), (20, 5))

    def test_a_written_sequence_can_go_on_with_the_next_key(self):
        # The terminal keeps what it has read of a sequence.
        desk = desk_of(((0, 97, 0, (27, 91)), (0, None, 0, (256,))), 2, 8)
        for key in (120, 97, 68, 121):
            desk.press(key)
        self.assertEqual(picture(desk)[0], "y       ")


class TestResizing(unittest.TestCase):
    def test_a_program_can_resize_its_terminal(self):
        desk = desk_of(((0, 97, 0, (27, 91, 56, 59, 51, 59, 53, 116)), (0, None, 0, (256,))))
        for key in (98, 97, 99):
            desk.press(key)
        self.assertEqual(picture(desk), ["bc   ", " " * 5, " " * 5])


class TestRunKeys(unittest.TestCase):
    def test_no_key(self):
        for rows, columns in ((1, 2), (4, 12), (12, 40)):
            self.assertEqual(run_keys(Program(EDITOR), [], rows=rows, columns=columns), blank_screen(rows, columns))

    def test_some_and_all(self):
        program = Program(EDITOR)
        desk = Desk(program, 3, 9)
        for many in range(len(KEYS) + 1):
            self.assertEqual(run_keys(program, KEYS[:many], rows=3, columns=9), desk.screen())
            if many < len(KEYS):
                desk.press(KEYS[many])
        self.assertEqual(desk.done(), len(KEYS))

    def test_the_list_stays(self):
        keys = list(KEYS)
        run_keys(Program(EDITOR), keys, rows=3, columns=9)
        self.assertEqual(keys, KEYS)

    def test_keywords(self):
        with self.assertRaises(TypeError):
            run_keys(Program(EDITOR), [], 3, 9)

    def test_sizes_beyond_the_ranges_are_no_error(self):
        for rows, columns in ((13, 41), (1, 1), (0, 2)):
            run_keys(Program(EDITOR), KEYS, rows=rows, columns=columns)


class TestOwnership(unittest.TestCase):
    def test_screens_stay_as_they_were(self):
        desk = desk_of(ECHO)
        desk.press(97)
        screen = desk.screen()
        kept = look(2, 8, "a")
        self.assertEqual(screen, kept)
        desk.press(98)
        self.assertEqual(screen, kept)

    def test_two_desks(self):
        one, two = desk_of(ECHO), desk_of(ECHO)
        one.press(97)
        self.assertEqual((two.screen(), two.done()), (blank_screen(2, 8), 0))
