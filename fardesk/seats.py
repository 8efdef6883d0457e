"""Seats: what a person sees of a desk, and what is shown ahead of it."""

from fardesk.foretelling import Foreteller
from fardesk.screens import blank_screen
from fardesk.states import Hearer


class Seat:
    """A seat; `right` and `wrong` are how many foretellings were decided so since it was made."""

    def __init__(self, rows, columns):
        # A screen needs a line, and a size beyond the ranges is no error.
        self.blank = blank_screen(max(1, rows), columns)
        self.right = 0
        self.wrong = 0
        self.begin()

    def begin(self):
        """Make the hearer and the foreteller new."""
        self.hearer = Hearer(self.blank)
        self.foreteller = Foreteller(self.blank)

    def press(self, key):
        """Hand a key to the foreteller, and return its number."""
        return self.foreteller.press(key)

    def hear(self, datagram):
        """Take a datagram, and return whether it is accepted."""
        if not self.hearer.hear(datagram):
            return False
        _, echo = self.hearer.numbers()
        right, wrong = self.foreteller.update(self.hearer.screen(), echo)
        self.right += right
        self.wrong += wrong
        return True

    def sure(self):
        """Return the sure screen."""
        return self.hearer.screen()

    def shown(self):
        """Return the screen that is shown."""
        return self.foreteller.screen()

    def numbers(self):
        """Return the number and the echo of the hearer."""
        return self.hearer.numbers()

    def guesses(self):
        """Return how many foretellings were right, how many were wrong, and how many are pending."""
        return self.right, self.wrong, self.foreteller.numbers()[2]
