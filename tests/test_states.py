"""A teller and its hearer over a net that loses, delays and doubles."""

import unittest

from fardesk.differences import difference
from fardesk.errors import RefusedError
from fardesk.screens import blank_screen
from fardesk.states import Hearer, Teller
from tests.drawing import chances, drawn_screen, neighbour

LOSSES = ((1, 1, 1, 1), (8, 2, 2, 1), (6, 6, 1, 1), (2, 2, 4, 4), (30, 30, 2, 0), (30, 30, 1, 1), (20, 20, 20, 1), (3, 20, 3, 2))


class Net:
    """All datagrams and numbers that were ever sent, of which each can arrive at any time and again."""

    def __init__(self, case, seed):
        self.case = case
        self.chance = chances(seed)
        self.screen = drawn_screen(self.chance, 3, 8)
        self.echo = 0
        self.teller = Teller(self.screen)
        self.hearer = Hearer(self.screen)
        # What the teller was told, by its number.
        self.told = {0: (self.screen, 0)}
        self.datagrams = []
        self.replies = [0]
        self.last = (0, 0)

    def tell(self):
        if self.chance.random() < 0.8:
            self.screen = neighbour(self.chance, self.screen)
            self.echo += self.chance.randrange(3)
        number = self.teller.tell(self.screen, self.echo)
        self.case.assertEqual(self.told.setdefault(number, (self.screen, self.echo)), (self.screen, self.echo))
        self.case.assertEqual(number, max(self.told))

    def send(self):
        newest, acknowledged, _ = self.teller.numbers()
        before = self.teller.kept()
        try:
            datagram = self.teller.datagram()
        except RefusedError as error:
            self.case.assertEqual(error.reason, "too many states")
            self.case.assertEqual(len(before), 42)
            return False
        screen, echo = self.told[newest]
        self.case.assertEqual(datagram[1:4], (acknowledged, newest, echo))
        self.case.assertEqual(datagram[4], difference(self.told[acknowledged][0], screen))
        self.datagrams.append(datagram)
        return True

    def arrive(self, datagram):
        number, _ = self.hearer.numbers()
        accepted = self.hearer.hear(datagram)
        self.case.assertEqual(accepted, datagram[2] > number)
        self.replies.append(self.hearer.numbers()[0])

    def reply(self, number):
        _, acknowledged, _ = self.teller.numbers()
        self.case.assertEqual(self.teller.acknowledge(number), max(number, acknowledged))
        if number > acknowledged:
            self.case.assertTrue(self.send())

    def late(self, sent):
        """One of those that were sent, a new or an old one."""
        if self.chance.random() < 0.5:
            return sent[-1 - self.chance.randrange(min(3, len(sent)))]
        return self.chance.choice(sent)

    def look(self):
        number, echo = self.hearer.numbers()
        newest, acknowledged, newest_echo = self.teller.numbers()
        self.case.assertEqual((self.hearer.screen(), echo), self.told[number])
        self.case.assertTrue(acknowledged <= number <= newest)
        self.case.assertGreaterEqual((number, echo), self.last)
        self.case.assertEqual(newest_echo, self.told[newest][1])
        self.last = (number, echo)
        teller, hearer = self.teller.kept(), self.hearer.kept()
        self.case.assertTrue(len(teller) <= 42 and len(hearer) <= 41)
        self.case.assertEqual((teller, hearer), (sorted(teller), sorted(hearer)))
        self.case.assertEqual((teller[0], teller[-1], hearer[-1]), (acknowledged, newest, number))

    def happen(self, weights):
        kind = self.chance.choices(("tell", "send", "arrive", "reply"), weights)[0]
        if kind == "tell":
            self.tell()
        elif kind == "send":
            self.send()
        elif kind == "arrive" and self.datagrams:
            self.arrive(self.late(self.datagrams))
        elif kind == "reply":
            self.reply(self.late(self.replies))
        self.look()


class TestAnyHistory(unittest.TestCase):
    def test_what_holds_behind_each_happening(self):
        for seed, weights in enumerate(LOSSES * 3):
            net = Net(self, seed)
            for _ in range(400):
                net.happen(weights)
            if net.send():
                net.arrive(net.datagrams[-1])
                net.look()
                self.assertEqual(net.hearer.numbers()[0], net.teller.numbers()[0])
                self.assertEqual(net.hearer.screen(), net.screen)

    def test_a_hearer_that_keeps_as_much_as_it_can(self):
        teller, hearer = Teller(blank_screen(1, 8)), Hearer(blank_screen(1, 8))
        for echo in range(1, 41):
            teller.tell(blank_screen(1, 8), echo)
            self.assertTrue(hearer.hear(teller.datagram()))
        teller.tell(blank_screen(1, 8), 41)
        self.assertEqual((len(teller.kept()), len(hearer.kept())), (42, 41))
        teller.acknowledge(hearer.numbers()[0])
        self.assertTrue(hearer.hear(teller.datagram()))
        self.assertEqual((teller.kept(), hearer.kept()), ([40, 41], [40, 41]))

    def test_a_datagram_that_is_made_after_the_last_telling(self):
        teller, hearer = Teller(blank_screen(1, 8)), Hearer(blank_screen(1, 8))
        first = blank_screen(2, 8)
        teller.tell(first, 1)
        lost = teller.datagram()
        teller.tell(blank_screen(3, 8), 1)
        teller.datagram()
        again = teller.datagram()
        self.assertTrue(hearer.hear(again))
        self.assertFalse(hearer.hear(lost))
        self.assertEqual((hearer.numbers(), hearer.screen()), ((2, 1), blank_screen(3, 8)))
