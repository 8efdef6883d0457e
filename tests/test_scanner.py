import unittest

from fardesk.scanner import scan

GROUND = ("ground",)
ESCAPE = ("escape",)
BETWEEN = ("between",)
INVALID = ("invalid",)
CONTROLS = [character for character in range(32) if character not in (24, 26, 27)]


def sequence(private=False, numbers=(), fresh=False):
    return "sequence", private, numbers, fresh


def command(string="", escaped=False):
    return "command", tuple(ord(sign) for sign in string), escaped


def outside(state):
    """What every state but a command does below 32."""
    table = {character: (state, ("control", character)) for character in CONTROLS}
    table.update({24: (GROUND, None), 26: (GROUND, None), 27: (ESCAPE, None)})
    return table


def ground_table():
    table = outside(GROUND)
    table.update({character: (GROUND, ("print", character)) for character in range(32, 256)})
    table.update({character: (GROUND, None) for character in range(127, 160)})
    return table


def escape_table():
    table = outside(ESCAPE)
    table.update({character: (GROUND, ("escape", character)) for character in range(48, 256)})
    table.update({character: (BETWEEN, None) for character in range(32, 48)})
    table.update({ord("["): (sequence(fresh=True), None), ord("]"): (command(), None)})
    return table


def ignoring_table(state, first):
    table = outside(state)
    table.update({character: (state, None) for character in range(32, 256)})
    table.update({character: (GROUND, None) for character in range(first, 127)})
    return table


def sequence_table(private, numbers, fresh, after_digit, after_semicolon):
    """after_digit is a function of the digit."""
    state = sequence(private, numbers, fresh)
    table = outside(state)
    table.update({character: (INVALID, None) for character in range(32, 256)})
    table.update({48 + digit: (sequence(private, after_digit(digit)), None) for digit in range(10)})
    table.update({character: (GROUND, ("sequence", private, numbers[:16], character)) for character in range(64, 127)})
    table[59] = (sequence(private, after_semicolon), None)
    table[127] = (state, None)
    if fresh:
        table[63] = (sequence(True, numbers), None)
    return table


def command_table(string):
    state = command(string)
    table = {character: (state, None) for character in list(range(32)) + list(range(127, 160))}
    for character in list(range(32, 127)) + list(range(160, 256)):
        table[character] = (command((string + chr(character))[:42]), None)
    table.update({24: (GROUND, None), 26: (GROUND, None), 27: (command(string, True), None)})
    table[7] = (GROUND, ("command", state[1]))
    return table


def escaped_table(string):
    table = escape_table()
    table[92] = (GROUND, ("command", command(string)[1]))
    return table


def scanned(string, state=GROUND):
    """The last state, and the events, without those that are None."""
    events = []
    for sign in string:
        state, event = scan(state, ord(sign))
        if event is not None:
            events.append(event)
    return state, events


def numbers_of(parameters):
    """The numbers of the event of a sequence with these parameters, which ends with m."""
    state, events = scanned("\x1b[" + parameters + "m")
    assert state == GROUND and len(events) == 1 and events[0][0] == "sequence" and events[0][3] == 109
    return events[0][2]


class TestEveryCharacter(unittest.TestCase):
    def check(self, state, table):
        self.assertEqual(sorted(table), list(range(256)))
        for character in range(256):
            self.assertEqual(scan(state, character), table[character], (state, character))

    def test_ground(self):
        self.check(GROUND, ground_table())

    def test_escape(self):
        self.check(ESCAPE, escape_table())

    def test_between(self):
        self.check(BETWEEN, ignoring_table(BETWEEN, 48))

    def test_invalid(self):
        self.check(INVALID, ignoring_table(INVALID, 64))

    def test_sequence_without_numbers(self):
        for private, fresh in ((False, True), (False, False), (True, False)):
            table = sequence_table(private, (), fresh, lambda digit: (digit,), (None, None))
            self.check(sequence(private, (), fresh), table)

    def test_sequence_with_numbers(self):
        for private in (False, True):
            table = sequence_table(private, (4, None), False, lambda digit: (4, digit), (4, None, None))
            self.check(sequence(private, (4, None)), table)
            table = sequence_table(private, (4, 0, 12), False, lambda digit: (4, 0, 120 + digit), (4, 0, 12, None))
            self.check(sequence(private, (4, 0, 12)), table)

    def test_sequence_with_great_numbers(self):
        table = sequence_table(False, (999,), False, lambda digit: (9990 + digit,), (999, None))
        self.check(sequence(False, (999,)), table)
        for number in (1000, 9999):
            def after(digit, number=number):
                return (min(9999, number * 10 + digit),)
            self.check(sequence(False, (number,)), sequence_table(False, (number,), False, after, (number, None)))

    def test_sequence_with_many_numbers(self):
        fifteen = (3,) * 15
        table = sequence_table(False, fifteen, False, lambda digit: fifteen[:14] + (30 + digit,), fifteen + (None,))
        self.check(sequence(False, fifteen), table)
        sixteen = fifteen + (None,)
        table = sequence_table(False, sixteen, False, lambda digit: fifteen + (digit,), sixteen + (None,))
        self.check(sequence(False, sixteen), table)
        seventeen = (3,) * 16 + (None,)
        self.check(sequence(True, seventeen), sequence_table(True, seventeen, False, lambda digit: seventeen, seventeen))

    def test_command(self):
        for string in ("", "0;", "a\xc4", "x" * 41, "x" * 42):
            self.check(command(string), command_table(string))

    def test_escaped_command(self):
        for string in ("", "0;title", "x" * 42):
            self.check(command(string, True), escaped_table(string))


class TestSequences(unittest.TestCase):
    def test_numbers(self):
        cases = {"": (), "0": (0,), "7": (7,), "007": (7,), "12;3": (12, 3), ";": (None, None), "5;": (5, None),
                 ";5": (None, 5), ";;": (None, None, None), "1;;3": (1, None, 3), "0;0": (0, 0)}
        for parameters, numbers in cases.items():
            self.assertEqual(numbers_of(parameters), numbers, parameters)

    def test_numbers_above_the_greatest(self):
        cases = {"9999": (9999,), "10000": (9999,), "99999": (9999,), "100000": (9999,), "12345678901234567890": (9999,),
                 "10000;10": (9999, 10), "09999": (9999,), "00000000012": (12,), "10000000": (9999,)}
        for parameters, numbers in cases.items():
            self.assertEqual(numbers_of(parameters), numbers, parameters)

    def test_many_numbers(self):
        for many in range(1, 21):
            self.assertEqual(numbers_of(";".join(["12"] * many)), (12,) * min(many, 16), many)
            self.assertEqual(numbers_of(";" * many), (None,) * min(many + 1, 16), many)

    def test_the_number_behind_the_16th_never_gets_a_digit(self):
        state, _ = scanned("\x1b[" + "1;" * 16)
        self.assertEqual(state, sequence(False, (1,) * 16 + (None,)))
        for string in ("5", ";", "5;6;7", ";;;"):
            self.assertEqual(scanned(string, state), (state, []))
        self.assertEqual(scanned("5m", state), (GROUND, [("sequence", False, (1,) * 16, 109)]))

    def test_private(self):
        self.assertEqual(scanned("\x1b[?25h"), (GROUND, [("sequence", True, (25,), 104)]))
        self.assertEqual(scanned("\x1b[?h"), (GROUND, [("sequence", True, (), 104)]))
        self.assertEqual(scanned("\x1b[\r?1h")[1], [("control", 13), ("sequence", True, (1,), 104)])
        self.assertEqual(scanned("\x1b[\x7f?1h")[1], [("sequence", True, (1,), 104)])

    def test_a_question_mark_at_each_place(self):
        for before in ("?", "1", ";", "1;", "1;2", "?1"):
            self.assertEqual(scanned("\x1b[" + before + "?")[0], INVALID, before)
            self.assertEqual(scanned("\x1b[" + before + "?3;h"), (GROUND, []), before)

    def test_spoiled_sequences(self):
        for sign in " !/:<=>\x80\x9f\xa0\xff":
            for before in ("", "1", "1;", "?"):
                self.assertEqual(scanned("\x1b[" + before + sign + "1;?\x7f\xff"), (INVALID, []), (before, sign))
                self.assertEqual(scanned("\x1b[" + before + sign + "1Hx"), (GROUND, [("print", 120)]), (before, sign))
        self.assertEqual(scanned("\x1b[1 \r2"), (INVALID, [("control", 13)]))

    def test_controls_and_127_leave_a_sequence_as_it_is(self):
        self.assertEqual(scanned("\x1b[1\n2\x7f;\b3H"),
                         (GROUND, [("control", 10), ("control", 8), ("sequence", False, (12, 3), 72)]))

    def test_broken_off_sequences(self):
        self.assertEqual(scanned("\x1b[1;\x182H"), (GROUND, [("print", 50), ("print", 72)]))
        self.assertEqual(scanned("\x1b[1;\x1a2")[1], [("print", 50)])
        self.assertEqual(scanned("\x1b[1;\x1b[2H"), (GROUND, [("sequence", False, (2,), 72)]))


class TestEscapes(unittest.TestCase):
    def test_escapes(self):
        self.assertEqual(scanned("\x1b7\x1bc\x1b\x7f\x1b\xff"),
                         (GROUND, [("escape", 55), ("escape", 99), ("escape", 127), ("escape", 255)]))
        self.assertEqual(scanned("\x1b\x1b7"), (GROUND, [("escape", 55)]))
        self.assertEqual(scanned("\x1b\t7"), (GROUND, [("control", 9), ("escape", 55)]))

    def test_between(self):
        self.assertEqual(scanned("\x1b(BX"), (GROUND, [("print", 88)]))
        self.assertEqual(scanned("\x1b( /\x7f\xc4[X"), (GROUND, [("print", 88)]))
        self.assertEqual(scanned("\x1b(\x1bD"), (GROUND, [("escape", 68)]))


class TestCommands(unittest.TestCase):
    def test_ended_by_7(self):
        self.assertEqual(scanned("\x1b]0;ab\x07c"), (GROUND, [("command", (48, 59, 97, 98)), ("print", 99)]))
        self.assertEqual(scanned("\x1b]\x07"), (GROUND, [("command", ())]))

    def test_ended_by_escape_and_backslash(self):
        self.assertEqual(scanned("\x1b]2;a\x1b\\c"), (GROUND, [("command", (50, 59, 97)), ("print", 99)]))

    def test_long_commands(self):
        for length in (41, 42, 43, 60):
            for end in ("\x07", "\x1b\\"):
                wanted = tuple(range(161, 161 + length))[:42]
                string = "\x1b]" + "".join(chr(161 + place) for place in range(length)) + end
                self.assertEqual(scanned(string), (GROUND, [("command", wanted)]), length)

    def test_control_characters_in_commands(self):
        self.assertEqual(scanned("\x1b]0;\r\n\x00\x7f\x80\x9fa\x07"), (GROUND, [("command", (48, 59, 97))]))

    def test_broken_off(self):
        for sign in "\x18\x1a":
            self.assertEqual(scanned("\x1b]0;a" + sign + "b"), (GROUND, [("print", 98)]))
            self.assertEqual(scanned("\x1b]0;a\x1b" + sign + "b"), (GROUND, [("print", 98)]))

    def test_escaped_and_going_on_otherwise(self):
        self.assertEqual(scanned("\x1b]0;a\x1b[2H"), (GROUND, [("sequence", False, (2,), 72)]))
        self.assertEqual(scanned("\x1b]0;a\x1b]2;b\x07"), (GROUND, [("command", (50, 59, 98))]))
        self.assertEqual(scanned("\x1b]0;a\x1bc\x07"), (GROUND, [("escape", 99), ("control", 7)]))
        self.assertEqual(scanned("\x1b]0;a\x1b(\\x"), (GROUND, [("print", 120)]))
        self.assertEqual(scanned("\x1b]0;a\x1b\x1b\\"), (GROUND, [("escape", 92)]))
        self.assertEqual(scanned("\x1b]0;a\x1b\x07"), (ESCAPE, [("control", 7)]))
        self.assertEqual(scanned("\x1b]0;a\x1b\r\\"), (GROUND, [("control", 13), ("escape", 92)]))
