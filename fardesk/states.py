"""Numbered states of a screen: the far end tells of them, the near end hears of them."""

from fardesk.differences import applied, difference
from fardesk.errors import RefusedError

MOST_SENT = 40
MOST_HEARD = 64


class Teller:
    """The far end of a connection.

    `states` are those that are kept, tuples (number, screen, echo, sent), by ascending numbers. So the
    first one is the acknowledged state, and the last one the newest; all but the newest are sent.
    """

    def __init__(self, screen):
        self.states = [(0, screen, 0, True)]
        self.serial = 0

    def tell(self, screen, echo):
        """Take a screen and an echo as the newest state, and return its number."""
        number, newest, newest_echo, sent = self.states[-1]
        if echo < newest_echo:
            raise RefusedError("echo must not decrease")
        if screen == newest and echo == newest_echo:
            return number
        if not sent:
            self.states.pop()
        self.states.append((number + 1, screen, echo, False))
        return number + 1

    def datagram(self):
        """Return the next datagram: from the acknowledged state to the newest one."""
        base, acknowledged, _, _ = self.states[0]
        number, newest, echo, sent = self.states[-1]
        if not sent:
            # Neither the acknowledged state nor the newest one counts.
            if len(self.states) - 2 >= MOST_SENT:
                raise RefusedError("too many states")
            self.states[-1] = (number, newest, echo, True)
        self.serial += 1
        return self.serial, base, number, echo, difference(acknowledged, newest)

    def acknowledge(self, number):
        """Learn that the near end has a state, and return the number of the acknowledged one."""
        if number > self.states[0][0]:
            if number not in [kept for kept, _, _, sent in self.states if sent]:
                raise RefusedError("unknown state")
            self.states = [state for state in self.states if state[0] >= number]
        return self.states[0][0]

    def numbers(self):
        """Return the numbers of the newest and of the acknowledged state, and the newest echo."""
        number, _, echo, _ = self.states[-1]
        return number, self.states[0][0], echo

    def kept(self):
        """Return the list of the numbers of the kept states."""
        return [state[0] for state in self.states]


class Hearer:
    """The near end of a connection.

    `states` are those that are kept, tuples (number, screen, echo), by ascending numbers.
    """

    def __init__(self, screen):
        self.states = [(0, screen, 0)]

    def hear(self, datagram):
        """Take a datagram, and return whether it is accepted."""
        _, base, number, echo, text = datagram
        if number <= self.states[-1][0] or base not in self.kept():
            return False
        states = [state for state in self.states if state[0] >= base]
        if len(states) >= MOST_HEARD:
            return False
        states.append((number, applied(states[0][1], text), echo))
        self.states = states
        return True

    def numbers(self):
        """Return the number and the echo of the newest state."""
        number, _, echo = self.states[-1]
        return number, echo

    def screen(self):
        """Return the screen of the newest state."""
        return self.states[-1][1]

    def kept(self):
        """Return the list of the numbers of the kept states."""
        return [state[0] for state in self.states]
