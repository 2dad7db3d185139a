"""Homes that answer, and hands that are led step by step, for the tests of hands."""

import unittest

from homeshold.answers import answer
from homeshold.errors import HomeError
from homeshold.hands import Hand
from homeshold.letters import is_letter
from homeshold.tables import bare_table, behind, is_closed


class Town:
    """Homes 0 to 8, each with its table, that do what answer tells."""

    def __init__(self, members, epoch=0, ahead=()):
        self.tables = {home: bare_table() for home in range(9)}
        self.deeds = []
        for home in members:
            self.do(home, ("install", epoch, members, ahead, (), ()))

    def do(self, home, *deeds):
        for deed in deeds:
            self.deeds.append((home, deed))
            self.tables[home] = behind(self.tables[home], deed)
            assert is_closed(self.tables[home])

    def read(self, letter):
        """The letters with which a home answers this one."""
        home = letter[0][1]
        deeds, letters = answer(home, self.tables[home], letter)
        self.do(home, *deeds)
        return letters

    def run(self, hand, letters, away=(), order=None):
        """Letters come to the homes that aren't away, and what these answer to the hand, until there are none."""
        bag = list(letters)
        sent = []
        while bag:
            letter = bag.pop(order.randrange(len(bag)) if order else 0)
            sent.append(letter)
            if letter[0][0] == "hand":
                bag += hand.take(letter)
            elif letter[0][1] not in away:
                bag += self.read(letter)
        return sent

    def tick(self):
        for home in self.tables:
            self.do(home, ("tick",))

    def done(self, hand, op, away=(), order=None):
        """What an operation leads to, with again, and a tick of each home, as often as that is needed."""
        self.run(hand, hand.begin(op), away, order)
        for _ in range(20):
            if hand.running() is None:
                return hand.result()
            self.run(hand, hand.again(), away, order)
            self.tick()
        raise AssertionError("the operation doesn't end: " + repr(op))


def look(hand):
    """All that a hand tells of itself."""
    told = tuple([hand.quick(name) for name in ("a", "b", "c", "ab")])
    return hand.running(), hand.result(), hand.at_place(), hand.copy().again(), told


class HandCase(unittest.TestCase):
    """Leads one hand, number 7 if nothing else is told."""

    number = 7

    def letters(self, talk, *written):
        """The letters of the hand, told by a home and what is written to it, in order."""
        return tuple([(("home", home), ("hand", self.number), talk, word, rest) for home, word, rest in written])

    def to_each(self, homes, talk, *written):
        return self.letters(talk, *[(home,) + one for home in homes for one in written])

    def check_sent(self, sent, wanted):
        self.assertEqual(sent, wanted)
        self.assertIs(type(sent), tuple)
        for letter in sent:
            self.assertTrue(is_letter(letter), letter)

    def take(self, hand, home, talk, word, *rest):
        letter = (("hand", self.number), ("home", home), talk, word, rest)
        self.assertTrue(is_letter(letter), letter)
        return hand.take(letter)

    def check_idle(self, hand, home, talk, word, *rest):
        """The letter changes nothing, and nothing is written."""
        before = look(hand)
        self.assertEqual(self.take(hand, home, talk, word, *rest), ())
        self.assertEqual(look(hand), before)

    def check_refused(self, error, hand, function, argument):
        before = (look(hand), repr(argument))
        for _ in range(2):
            with self.assertRaises(HomeError) as caught:
                function(argument)
            self.assertIs(type(caught.exception), error)
        self.assertEqual((look(hand), repr(argument)), before)

    def begun(self, hand, op, wanted):
        self.check_sent(hand.begin(op), wanted)
        self.assertEqual(hand.running(), op)
        return hand

    def check_ended(self, hand, result):
        self.assertIsNone(hand.running())
        self.assertEqual(hand.result(), result)
        self.assertEqual(repr(hand.result()), repr(result))
        self.assertEqual(hand.again(), ())


def hand_of(members, epoch=0, ahead=(), number=7):
    return Hand(number, epoch, members, ahead)
