"""Desks: a program that reads keys and writes to a terminal."""

from fardesk.terminals import Terminal

# So a program that answers the replies to its own questions comes to an end.
MOST_READ = 20


class Desk:
    """A desk; `program_state` is the state of its program, `many_done` how many keys it has done."""

    def __init__(self, program, rows, columns):
        self.program = program
        self.terminal = Terminal(rows, columns)
        self.program_state = 0
        self.many_done = 0

    def press(self, key):
        """Do a key, and return how many were done."""
        waiting = self.terminal.press(key)
        many_read = 0
        while waiting and many_read < MOST_READ:
            waiting = waiting[1:] + self.read(waiting[0])
            many_read += 1
        self.many_done += 1
        return self.many_done

    def read(self, character):
        """Let the program read a character, and return the replies of the terminal to its answer."""
        self.program_state, answer = self.program.read(self.program_state, character)
        return self.terminal.write(answer)

    def screen(self):
        """Return the screen of the terminal."""
        return self.terminal.screen()

    def state(self):
        """Return the state of the program."""
        return self.program_state

    def done(self):
        """Return how many keys were done."""
        return self.many_done


def run_keys(program, keys, *, rows, columns):
    """Return the screen of a new desk after the keys of a list."""
    desk = Desk(program, rows, columns)
    for key in keys:
        desk.press(key)
    return desk.screen()
