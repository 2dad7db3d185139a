"""[12]: hands that move the store, carry it, help, and go on at another place."""

import itertools
import random
import unittest

from homeshold.tables import behind, head_of
from town import HandCase, Town, hand_of

OWN, AHEAD, NEWER = (1, 4, 6), (0, 1, 2), (2, 5, 8)
HEADS = (("a", (2, 1), ((1, 1), (1, 2))), ("b", (3, 3), None), ("d", (1, 1), ()))
BLOCKS = (((1, 1), "one"), ((1, 2), "two"))


class TestPrepare(HandCase):
    def test_letters(self):
        for members, epoch in (((0,), 0), (OWN, 3), (tuple(range(9)), 10 ** 11)):
            hand = hand_of(members, epoch)
            prepared = self.to_each(members, 1, ("prepare", (epoch, (1, 7))))
            self.begun(hand, ("move", NEWER), prepared)
            self.check_sent(hand.again(), prepared)

    def test_without_votes(self):
        hand = hand_of(OWN, 3)
        hand.begin(("move", NEWER))
        self.take(hand, 4, 1, "promised", 3, (1, 7), None)
        self.check_idle(hand, 4, 1, "promised", 3, (1, 7), ((0, 0), (3,)))
        for ballot in ((0, 0), (1, 6), (1, 8), (2, 7)):
            self.check_idle(hand, 6, 1, "promised", 3, ballot, None)
        self.check_idle(hand, 6, 1, "voted", 3, (1, 7))
        self.check_sent(hand.again(), self.to_each((1, 6), 1, ("prepare", (3, (1, 7)))))
        sent = self.take(hand, 6, 1, "promised", 3, (1, 7), None)
        self.check_sent(sent, self.to_each(OWN, 2, ("accept", (3, (1, 7), NEWER))))

    def test_elder_votes(self):
        votes = (None, ((1, 9), (0,)), ((2, 1), (3, 4)), ((2, 3), (5,)), ((0, 0), (6,)))
        for told in itertools.product(votes, repeat=3):
            hand = hand_of((0, 1, 2, 3, 4), 3)
            hand.begin(("move", NEWER))
            for home, voted in zip((3, 0, 2), told):
                sent = self.take(hand, home, 1, "promised", 3, (1, 7), voted)
            found = [voted for voted in told if voted is not None]
            value = sorted(found)[-1][1] if found else NEWER
            self.check_sent(sent, self.to_each((0, 1, 2, 3, 4), 2, ("accept", (3, (1, 7), value))))

    def test_numbers_rise(self):
        hand = hand_of(OWN, 3)
        for number in (1, 2, 3):
            self.check_sent(hand.begin(("move", NEWER))[:1], self.letters(number, (1, "prepare", (3, (number, 7)))))
            # An elder epoch's move ends the operation; the next one has a number of its own.
            self.take(hand, 1, number, "moved", 3, 5 + number, OWN, ())
            self.check_ended(hand, ("moved", 5 + number, OWN))
            hand = hand.copy()
            hand._place = (3, OWN, ())


class TestBeaten(HandCase):
    def prepared(self):
        hand = hand_of(OWN, 3)
        hand.begin(("move", NEWER))
        return hand

    def accepting(self):
        hand = self.prepared()
        for home in (1, 4):
            self.take(hand, home, 1, "promised", 3, (1, 7), None)
        return hand

    def test_beaten(self):
        for hand, talk, word, rest in ((self.prepared(), 1, "promised", ((1, 7), None)), (self.accepting(), 2, "voted", ((1, 7),))):
            self.take(hand, 6, talk, word, 3, *rest)
            self.assertEqual(self.take(hand, 1, talk, "beaten", 3, (1, 8)), ())
            self.assertEqual(hand.running(), ("move", NEWER))
            # Nothing counts any more.
            for home in OWN:
                self.assertEqual(self.take(hand, home, talk, word, 3, *rest), ())
            self.assertEqual(self.take(hand, 4, talk, "beaten", 3, (5, 2)), ())
            self.assertEqual(self.take(hand, 4, talk, "beaten", 3, (4, 9)), ())
            self.check_sent(hand.again(), self.to_each(OWN, talk + 1, ("prepare", (3, (6, 7)))))
            self.check_sent(hand.again(), self.to_each(OWN, talk + 1, ("prepare", (3, (6, 7)))))
            self.take(hand, 1, talk + 1, "promised", 3, (6, 7), None)
            sent = self.take(hand, 4, talk + 1, "promised", 3, (6, 7), None)
            self.check_sent(sent, self.to_each(OWN, talk + 2, ("accept", (3, (6, 7), NEWER))))

    def test_a_home_that_counts_may_beat_it(self):
        hand = self.accepting()
        self.take(hand, 1, 2, "voted", 3, (1, 7))
        self.take(hand, 1, 2, "beaten", 3, (2, 1))
        self.assertEqual(self.take(hand, 4, 2, "voted", 3, (1, 7)), ())
        self.check_sent(hand.again(), self.to_each(OWN, 3, ("prepare", (3, (3, 7)))))

    def test_copies(self):
        for hand, talk in ((self.prepared(), 1), (self.accepting(), 2)):
            elder = hand.copy()
            self.take(hand, 1, talk, "beaten", 3, (8, 8))
            anew = self.to_each(OWN, talk + 1, ("prepare", (3, (9, 7))))
            self.check_sent(hand.copy().again(), anew)
            self.assertNotEqual(elder.again(), anew)
            self.check_sent(hand.again(), anew)

    def test_other_talks_and_homes(self):
        hand = self.accepting()
        for home, talk in ((1, 1), (1, 3), (0, 2), (5, 2)):
            self.check_idle(hand, home, talk, "beaten", 3, (9, 9))
        self.take(hand, 1, 2, "beaten", 3, (2, 1))
        # What was told to another phase isn't counted in.
        self.check_sent(hand.again(), self.to_each(OWN, 3, ("prepare", (3, (3, 7)))))

    def test_the_next_operation_is_above_it(self):
        hand = self.prepared()
        self.take(hand, 1, 1, "beaten", 3, (40, 1))
        self.take(hand, 4, 1, "moved", 3, 9, (3,), (2,))
        self.check_ended(hand, ("moved", 9, (3,)))
        self.check_sent(hand.begin(("move", OWN)), self.to_each((3,), 2, ("prepare", (9, (41, 7)))))

    def test_moved_holds(self):
        for hand, talk in ((self.prepared(), 1), (self.accepting(), 2)):
            self.take(hand, 1, talk, "beaten", 3, (2, 1))
            twin = hand.copy()
            sent = self.take(hand, 4, talk, "moved", 3, 4, (5, 6), OWN)
            self.check_sent(sent, self.to_each(OWN, talk + 1, ("seal", (3, (5, 6)))))
            self.assertEqual(self.take(twin, 4, talk, "moved", 3, 5, (5, 6), (2,)), ())
            self.check_ended(twin, ("moved", 5, (5, 6)))
            self.assertEqual(twin.at_place(), (5, (5, 6), (2,)))

    def test_ahead_of_any_help(self):
        hand = hand_of(OWN, 3, AHEAD)
        hand.begin(("move", NEWER))
        self.take(hand, 1, 1, "behind", 3)
        self.take(hand, 4, 1, "beaten", 3, (2, 1))
        self.check_sent(hand.again(), self.to_each(OWN, 2, ("prepare", (3, (3, 7)))))
        self.check_sent(hand.again(), self.to_each(OWN, 2, ("prepare", (3, (3, 7)))))


class MoveCase(HandCase):
    def sealing(self, own=OWN, chosen=NEWER, epoch=3, ahead=()):
        """A hand that moves from its own members to the chosen ones, and the talk of its SEAL."""
        hand = hand_of(own, epoch, ahead)
        hand.begin(("move", chosen))
        many = len(own) // 2 + 1
        for home in own[:many]:
            self.take(hand, home, 1, "promised", epoch, (1, 7), None)
        for home in own[:many]:
            sent = self.take(hand, home, 2, "voted", epoch, (1, 7))
        self.check_sent(sent, self.to_each(own, 3, ("seal", (epoch, chosen))))
        return hand


class TestMove(MoveCase):
    def test_accept(self):
        hand = hand_of(OWN, 3)
        hand.begin(("move", NEWER))
        for home in (1, 6):
            self.take(hand, home, 1, "promised", 3, (1, 7), ((0, 0), (3, 4)))
        for ballot in ((1, 6), (2, 7), (0, 0)):
            self.check_idle(hand, 1, 2, "voted", 3, ballot)
        self.take(hand, 1, 2, "voted", 3, (1, 7))
        self.check_idle(hand, 1, 2, "voted", 3, (1, 7))
        self.check_sent(hand.again(), self.to_each((4, 6), 2, ("accept", (3, (1, 7), (3, 4)))))
        sent = self.take(hand, 6, 2, "voted", 3, (1, 7))
        # What was voted is chosen, not what the operation named.
        self.check_sent(sent, self.to_each(OWN, 3, ("seal", (3, (3, 4)))))

    def test_sealed(self):
        hand = self.sealing()
        self.take(hand, 1, 3, "sealed", 3, NEWER, HEADS, BLOCKS)
        self.check_idle(hand, 1, 3, "sealed", 3, NEWER, (), ())
        self.check_idle(hand, 4, 3, "leased", 3)
        self.check_idle(hand, 4, 3, "behind", 3)
        self.check_sent(hand.again(), self.to_each((4, 6), 3, ("seal", (3, NEWER))))
        other = (("a", (1, 9), ((9, 1),)), ("b", (3, 4), ((9, 2),)), ("c", (1, 1), ((1, 2), (1, 3))), ("d", (1, 1), ()))
        sent = self.take(hand, 4, 3, "sealed", 3, NEWER, other, (((1, 2), "two"), ((1, 3), "three"), ((9, 1), "x"), ((9, 2), "y")))
        # For each name the greatest head, and of the blocks those to which these lead.
        heads = (HEADS[0], other[1], other[2], other[3])
        blocks = (((1, 1), "one"), ((1, 2), "two"), ((1, 3), "three"), ((9, 2), "y"))
        installed = self.to_each(NEWER, 4, ("install", (4, NEWER, OWN, heads, blocks)))
        self.check_sent(sent, installed)
        self.check_sent(hand.again(), installed)
        self.take(hand, 8, 4, "installed", 4)
        self.check_idle(hand, 8, 4, "installed", 4)
        self.check_idle(hand, 1, 4, "installed", 4)
        self.check_idle(hand, 2, 3, "installed", 4)
        self.assertEqual(hand.at_place(), (3, OWN, ()))
        self.check_sent(hand.again(), self.to_each((2, 5), 4, ("install", (4, NEWER, OWN, heads, blocks))))
        self.assertEqual(self.take(hand, 5, 4, "installed", 4), ())
        self.check_ended(hand, ("moved", 4, NEWER))
        self.assertEqual(hand.at_place(), (4, NEWER, OWN))

    def test_stood(self):
        for told in ((), (1,), (4,)):
            hand = self.sealing()
            for home in told:
                self.take(hand, home, 3, "sealed", 3, NEWER, (("z", (9, 9), None),), ())
            sent = self.take(hand, 6, 3, "stood", 3, NEWER, HEADS, BLOCKS)
            self.check_sent(sent, self.to_each(NEWER, 4, ("install", (4, NEWER, OWN, HEADS, BLOCKS))))

    def test_majorities(self):
        for own in ((3,), (0, 8), OWN, (0, 1, 2, 3), (0, 2, 3, 5, 8), tuple(range(9))):
            for chosen in ((3,), (0, 8), NEWER, (4, 5, 6, 7), tuple(range(9))):
                hand = hand_of(own, 3)
                hand.begin(("move", chosen))
                phases = ((own, "promised", (3, (1, 7), None)), (own, "voted", (3, (1, 7))), (own, "sealed", (3, chosen, (), ())),
                          (chosen, "installed", (4,)))
                for talk, (homes, word, rest) in enumerate(phases, start=1):
                    many = len(homes) // 2 + 1
                    for home in homes[-many + 1:] if many > 1 else ():
                        self.assertEqual(self.take(hand, home, talk, word, *rest), ())
                        self.assertEqual(hand.running(), ("move", chosen))
                    sent = self.take(hand, homes[0], talk, word, *rest)
                    self.assertEqual([letter[2] for letter in sent], [talk + 1] * len(sent))
                self.check_ended(hand, ("moved", 4, chosen))
                self.assertEqual(hand.at_place(), (4, chosen, own))

    def test_moved_while_a_ballot_runs(self):
        for talks in (1, 2):
            for newer, others, before in ((4, (5, 6), OWN), (5, (5, 6), (2, 3)), (9, (0,), ())):
                hand = hand_of(OWN, 3, AHEAD)
                hand.begin(("move", NEWER))
                if talks == 2:
                    for home in (1, 4):
                        self.take(hand, home, 1, "promised", 3, (1, 7), None)
                for low in (0, 2, 3):
                    self.check_idle(hand, 4, talks, "moved", 3, low, (5, 6), OWN)
                self.check_idle(hand, 0, talks, "moved", 3, newer, others, before)
                sent = self.take(hand, 4, talks, "moved", 3, newer, others, before)
                if newer == 4:
                    # What the home tells was chosen.
                    self.check_sent(sent, self.to_each(OWN, talks + 1, ("seal", (3, (5, 6)))))
                    self.assertEqual(hand.at_place(), (3, OWN, AHEAD))
                    sent = self.take(hand, 1, talks + 1, "stood", 3, (5, 6), HEADS, BLOCKS)
                    self.check_sent(sent, self.to_each((5, 6), talks + 2, ("install", (4, (5, 6), OWN, HEADS, BLOCKS))))
                    for home in (5, 6):
                        self.take(hand, home, talks + 2, "installed", 4)
                    self.check_ended(hand, ("moved", 4, (5, 6)))
                    self.assertEqual(hand.at_place(), (4, (5, 6), OWN))
                else:
                    self.assertEqual(sent, ())
                    self.check_ended(hand, ("moved", newer, others))
                    self.assertEqual(hand.at_place(), (newer, others, before))

    def test_moved_in_seal_and_install(self):
        for newer in (4, 5, 9):
            for before in ((), OWN, (2, 3)):
                hand = self.sealing()
                twin = hand.copy()
                for low in (0, 3):
                    self.check_idle(hand, 4, 3, "moved", 3, low, (5,), before)
                self.assertEqual(self.take(hand, 4, 3, "moved", 3, newer, (5,), before), ())
                self.check_ended(hand, ("moved", newer, (5,)))
                self.assertEqual(hand.at_place(), (newer, (5,), before))
                self.take(twin, 4, 3, "stood", 3, NEWER, (), ())
                self.check_idle(twin, 5, 4, "moved", 4, 3, (5,), before)
                self.assertEqual(self.take(twin, 5, 4, "moved", 4, newer, (5,), before), ())
                self.check_ended(twin, ("moved", newer, (5,)))
                self.assertEqual(twin.at_place(), (newer, (5,), before))


class TestCarried(MoveCase):
    def carried(self, *told):
        own = tuple(range(2 * len(told) - 1))
        hand = self.sealing(own)
        for home, (heads, blocks) in enumerate(told):
            sent = self.take(hand, home, 3, "sealed", 3, NEWER, heads, blocks)
        return sent[0][4][3:]

    def test_told(self):
        self.assertEqual(self.carried(((), ())), ((), ()))
        self.assertEqual(self.carried((HEADS, BLOCKS)), (HEADS, BLOCKS))
        # Blocks to which no head leads stay behind.
        self.assertEqual(self.carried((HEADS[1:], BLOCKS)), (HEADS[1:], ()))
        self.assertEqual(self.carried(((), ()), (HEADS, BLOCKS)), (HEADS, BLOCKS))

    def test_greatest(self):
        first, second, third = (("a", (1, 9), ((1, 1),)),), (("a", (2, 1), None),), (("a", (2, 2), ((1, 2),)),)
        for order in itertools.permutations((first, second, third)):
            self.assertEqual(self.carried(*[(heads, BLOCKS) for heads in order]), (third, BLOCKS[1:]))
        for order in itertools.permutations((first, first, second)):
            self.assertEqual(self.carried(*[(heads, BLOCKS) for heads in order]), (second, ()))

    def test_heads_and_blocks_ascend(self):
        first = ((("b", (1, 1), ((2, 1),)), ("d", (1, 1), ((2, 3),))), (((2, 1), "x"), ((2, 3), "z")))
        second = ((("a", (1, 1), ((1, 9),)), ("c", (1, 1), ((2, 2),))), (((1, 9), "w"), ((2, 2), "y")))
        wanted = ((second[0][0], first[0][0], second[0][1], first[0][1]), (((1, 9), "w"), ((2, 1), "x"), ((2, 2), "y"), ((2, 3), "z")))
        self.assertEqual(self.carried(first, second), wanted)
        self.assertEqual(self.carried(second, first), wanted)

    def test_blocks_of_another_home(self):
        self.assertEqual(self.carried((HEADS, BLOCKS[:1]), ((), BLOCKS[1:])), (HEADS, BLOCKS))

    def test_no_file(self):
        removed = (("a", (2, 9), None),)
        self.assertEqual(self.carried((HEADS[:1], BLOCKS), (removed, ())), (removed, ()))
        self.assertEqual(self.carried(((("a", (0, 0), None),), ()), (HEADS[:1], BLOCKS)), (HEADS[:1], BLOCKS))


class TestCarry(HandCase):
    def test_without_members_ahead(self):
        hand = hand_of(OWN, 3)
        self.assertEqual(hand.begin(("carry",)), ())
        self.check_ended(hand, ("carried", 3))
        self.check_sent(hand.begin(("names",)), self.to_each(OWN, 1, ("list", (3,))))

    def test_with_members_ahead(self):
        hand = hand_of(OWN, 3, AHEAD)
        homes = (0, 1, 2, 4, 6)
        self.begun(hand, ("carry",), self.to_each(homes, 1, ("seal", (2, OWN))))
        # Only homes of ahead count.
        for home in (4, 6):
            self.check_idle(hand, home, 1, "sealed", 2, OWN, HEADS, BLOCKS)
            self.check_idle(hand, home, 1, "behind", 2)
        self.take(hand, 1, 1, "sealed", 2, OWN, HEADS[:2], BLOCKS)
        self.check_idle(hand, 0, 1, "leased", 2)
        self.check_sent(hand.again(), self.to_each((0, 2, 4, 6), 1, ("seal", (2, OWN))))
        sent = self.take(hand, 2, 1, "sealed", 2, OWN, HEADS[2:], ())
        installed = self.to_each(OWN, 2, ("install", (3, OWN, AHEAD, HEADS, BLOCKS)))
        self.check_sent(sent, installed)
        self.check_sent(hand.again(), installed)
        self.take(hand, 6, 2, "installed", 3)
        self.check_idle(hand, 6, 2, "installed", 3)
        self.check_idle(hand, 0, 2, "installed", 3)
        self.take(hand, 1, 2, "installed", 3)
        self.check_ended(hand, ("carried", 3))
        self.assertEqual(hand.at_place(), (3, OWN, AHEAD))

    def test_majorities_of_ahead(self):
        for ahead in ((8,), (7, 8), AHEAD, (0, 1, 2, 3), tuple(range(9))):
            hand = hand_of(OWN, 3, ahead)
            self.begun(hand, ("carry",), self.to_each(sorted(set(ahead + OWN)), 1, ("seal", (2, OWN))))
            many = len(ahead) // 2 + 1
            for home in ahead[:many - 1]:
                self.assertEqual(self.take(hand, home, 1, "sealed", 2, OWN, (), ()), ())
            sent = self.take(hand, ahead[many - 1], 1, "sealed", 2, OWN, (), ())
            self.check_sent(sent, self.to_each(OWN, 2, ("install", (3, OWN, ahead, (), ()))))

    def test_stood(self):
        for home in (0, 1, 2, 4, 6):
            hand = hand_of(OWN, 3, AHEAD)
            hand.begin(("carry",))
            self.take(hand, 2, 1, "sealed", 2, OWN, (("z", (9, 9), None),), ())
            sent = self.take(hand, home, 1, "stood", 2, OWN, HEADS, BLOCKS)
            self.check_sent(sent, self.to_each(OWN, 2, ("install", (3, OWN, AHEAD, HEADS, BLOCKS))))

    def test_moved(self):
        for phase in (1, 2):
            for newer, others, before in ((4, (5, 6), OWN), (6, NEWER, (0, 5)), (4, (1,), ())):
                hand = hand_of(OWN, 3, AHEAD)
                hand.begin(("carry",))
                if phase == 2:
                    self.take(hand, 0, 1, "stood", 2, OWN, HEADS, BLOCKS)
                for low in (2, 3):
                    self.check_idle(hand, 1, phase, "moved", 2, low, others, before)
                sent = self.take(hand, 1, phase, "moved", 4 - phase, newer, others, before)
                self.assertEqual(hand.at_place(), (newer, others, before))
                if before == ():
                    self.assertEqual(sent, ())
                    self.check_ended(hand, ("carried", newer))
                    continue
                self.check_sent(sent, self.to_each(sorted(set(others + before)), phase + 1, ("seal", (newer - 1, others))))
                sent = self.take(hand, others[0], phase + 1, "stood", newer - 1, others, (), ())
                self.check_sent(sent, self.to_each(others, phase + 2, ("install", (newer, others, before, (), ()))))
                for home in others[:2]:
                    self.take(hand, home, phase + 2, "installed", newer)
                self.check_ended(hand, ("carried", newer))
                self.assertEqual(hand.at_place(), (newer, others, before))


class HelpCase(HandCase):
    """Hands that are led into each phase at the place (3, OWN, ahead)."""

    def phases(self, ahead):
        """For each phase: the hand in it, its talk, a home that it wrote to, and what begins behind the help at other members."""
        hand, row = hand_of(OWN, 3, ahead), ((1, 1),)

        def tell(it, talk, word, *rest):
            for home in OWN[:2]:
                self.take(it, home, talk, word, 3, *rest)
            return it

        def begun(*op):
            it = hand.copy()
            it.begin(op)
            return it

        def ask(epoch, name):
            return (("ask", (epoch, name)),)

        put = ("put", (1, 1), "one")
        found = tell(begun("read", "a"), 1, "told", "a", (2, 1), row)
        unlike = begun("read", "a")
        self.take(unlike, 1, 1, "told", 3, "a", (2, 1), ())
        self.take(unlike, 4, 1, "told", 3, "a", (2, 2), ())
        copying = tell(begun("copy", "a", "b"), 1, "told", "a", (2, 1), row)
        self.take(copying, 1, 2, "block", 3, (1, 1), "one")
        copied = tell(copying.copy(), 3, "told", "b", (5, 1), None)
        leasing = tell(begun("lease", "a"), 1, "granted", "a", (2, 1), row)
        told = begun("lease", "a")
        self.take(told, 1, 1, "granted", 3, "a", (2, 1), ())
        self.take(told, 4, 1, "granted", 3, "a", (2, 2), ())
        return (
            ("ask", begun("read", "a"), 1, lambda epoch: ask(epoch, "a")),
            ("get", found, 2, lambda epoch: ask(epoch, "a")),
            ("say of a found head", unlike, 2, lambda epoch: ask(epoch, "a")),
            ("ask of a write", begun("write", "a", "text"), 1, lambda epoch: ask(epoch, "a")),
            ("say of a write", tell(begun("write", "a", "text"), 1, "told", "a", (5, 1), None), 2,
             lambda epoch: (("put", (epoch, (7, 1), "text")), ("head", (epoch, "a", (6, 7), ((7, 1),))))),
            ("ask of a remove", begun("remove", "a"), 1, lambda epoch: ask(epoch, "a")),
            ("say of a remove", tell(begun("remove", "a"), 1, "told", "a", (5, 1), None), 2,
             lambda epoch: (("head", (epoch, "a", (6, 7), None)),)),
            ("ask of a copy", begun("copy", "a", "b"), 1, lambda epoch: ask(epoch, "a")),
            ("second ask of a copy", copying, 3, lambda epoch: ask(epoch, "b")),
            ("say of a copy", copied, 4,
             lambda epoch: ((put[0], (epoch,) + put[1:]), ("head", (epoch, "b", (6, 7), row)))),
            ("list", begun("names"), 1, lambda epoch: (("list", (epoch,)),)),
            ("lease", begun("lease", "a"), 1, lambda epoch: (("lease", (epoch, "a")),)),
            ("get of a lease", leasing, 2, lambda epoch: (("lease", (epoch, "a")),)),
            ("say of a lease", told, 2, lambda epoch: (("lease", (epoch, "a")),)),
            ("free", begun("free", "a"), 1, lambda epoch: (("free", (epoch, "a")),)),
        )

    def check_help(self, hand, sent, talk, place):
        """The letters sent are those of SEAL; SEAL and INSTALL are done; tells what was written then."""
        epoch, members, ahead = place
        self.assertEqual(hand.at_place(), place)
        sealed = self.to_each(sorted(set(members + ahead)), talk, ("seal", (epoch - 1, members)))
        self.check_sent(sent, sealed)
        self.check_sent(hand.again(), sealed)
        many = len(ahead) // 2 + 1
        for home in ahead[:many]:
            sent = self.take(hand, home, talk, "sealed", epoch - 1, members, HEADS, BLOCKS)
        installed = self.to_each(members, talk + 1, ("install", (epoch, members, ahead, HEADS, BLOCKS)))
        self.check_sent(sent, installed)
        self.check_sent(hand.again(), installed)
        for home in members[:len(members) // 2 + 1]:
            self.assertIsNotNone(hand.running())
            sent = self.take(hand, home, talk + 1, "installed", epoch)
        self.assertEqual(hand.at_place(), place)
        return sent


class TestBehind(HelpCase):
    def test_each_phase(self):
        for word, hand, talk, begins in self.phases(AHEAD):
            with self.subTest(word):
                # A home to which the phase didn't write tells nothing, nor does another talk.
                self.check_idle(hand, 8, talk, "behind", 3)
                self.check_idle(hand, 1, talk + 1, "behind", 3)
                self.check_idle(hand, 1, talk - 1, "behind", 3)
                op = hand.running()
                self.assertEqual(self.take(hand, 4 if word.startswith("say") else 1, talk, "behind", 3), ())
                self.assertEqual(hand.running(), op)
                sent = self.check_help(hand, hand.again(), talk + 1, (3, OWN, AHEAD))
                self.check_sent(sent, self.to_each(OWN, talk + 3, *begins(3)))
                self.assertEqual(hand.running(), op)
                # The phase that began isn't one that was told behind, but in a GET again begins anew at any rate.
                self.check_sent(hand.again(), self.to_each(OWN, talk + 3, *begins(3)))

    def test_copies(self):
        for word, hand, talk, begins in self.phases(AHEAD):
            twin = hand.copy()
            self.take(hand, 4, talk, "behind", 3)
            sealed = self.to_each((0, 1, 2, 4, 6), talk + 1, ("seal", (2, OWN)))
            self.check_sent(hand.copy().again(), sealed)
            self.assertNotEqual(twin.again(), sealed)
            self.check_sent(hand.again(), sealed)

    def test_without_members_ahead(self):
        for word, hand, talk, begins in self.phases(()):
            with self.subTest(word):
                twin = hand.copy()
                self.check_idle(hand, 4 if word.startswith("say") else 1, talk, "behind", 3)
                self.assertEqual(hand.again(), twin.again())

    def test_that_was_told_behind_may_still_end(self):
        hand = hand_of(OWN, 3, AHEAD)
        hand.begin(("read", "a"))
        self.take(hand, 1, 1, "behind", 3)
        self.take(hand, 4, 1, "told", 3, "a", (2, 1), None)
        self.take(hand, 1, 1, "told", 3, "a", (2, 1), None)
        self.check_ended(hand, ("read", (2, 1), None))
        # The next operation wasn't told so.
        asked = hand.begin(("read", "a"))
        self.check_sent(hand.again(), asked)

    def test_the_next_phase_was_not_told(self):
        hand = hand_of(OWN, 3, AHEAD)
        hand.begin(("remove", "a"))
        self.take(hand, 6, 1, "behind", 3)
        self.take(hand, 4, 1, "told", 3, "a", (2, 1), None)
        said = self.take(hand, 1, 1, "told", 3, "a", (2, 1), None)
        self.check_sent(hand.again(), said)

    def test_of_a_move(self):
        for talks in (1, 2):
            hand = hand_of(OWN, 3, AHEAD)
            hand.begin(("move", NEWER))
            if talks == 2:
                for home in (1, 4):
                    self.take(hand, home, 1, "promised", 3, (1, 7), None)
            self.take(hand, 6, talks, "behind", 3)
            sent = self.check_help(hand, hand.again(), talks + 1, (3, OWN, AHEAD))
            # A move begins PREPARE anew, with a number above the one it used.
            self.check_sent(sent, self.to_each(OWN, talks + 3, ("prepare", (3, (2, 7)))))
            self.assertEqual(hand.running(), ("move", NEWER))

    def test_moved_while_a_move_helps(self):
        for phase in (2, 3):
            for newer, others, before in ((4, (5, 6), OWN), (7, (5,), ())):
                hand = hand_of(OWN, 3, AHEAD)
                hand.begin(("move", NEWER))
                self.take(hand, 6, 1, "behind", 3)
                hand.again()
                if phase == 3:
                    self.take(hand, 0, 2, "stood", 2, OWN, (), ())
                self.check_idle(hand, 1, phase, "moved", 2, 3, others, before)
                self.assertEqual(self.take(hand, 1, phase, "moved", 5 - phase, newer, others, before), ())
                self.check_ended(hand, ("moved", newer, others))
                self.assertEqual(hand.at_place(), (newer, others, before))

    def test_seal_and_install_do_not_help(self):
        hand = hand_of(OWN, 3, AHEAD)
        hand.begin(("carry",))
        for talk in (1, 2):
            for home in (1, 4):
                self.check_idle(hand, home, talk, "behind", 4 - talk)
            self.assertEqual(set([letter[3] for letter in hand.again()]), {("seal", "install")[talk - 1]})
            self.take(hand, 0, 1, "stood", 2, OWN, (), ())


class TestMoved(HelpCase):
    def test_each_phase(self):
        for newer, others, before in ((4, (4, 5), OWN), (6, NEWER, (0, 5)), (4, (3,), (3,))):
            for own_ahead in ((), AHEAD):
                for word, hand, talk, begins in self.phases(own_ahead):
                    with self.subTest(word, newer=newer):
                        op = hand.running()
                        for low in (0, 2, 3):
                            self.check_idle(hand, 4, talk, "moved", 3, low, others, before)
                        self.check_idle(hand, 8, talk, "moved", 3, newer, others, before)
                        self.check_idle(hand, 4, talk + 1, "moved", 3, newer, others, before)
                        self.check_idle(hand, 4, talk - 1, "moved", 3, newer, others, before)
                        sent = self.take(hand, 4, talk, "moved", 3, newer, others, before)
                        sent = self.check_help(hand, sent, talk + 1, (newer, others, before))
                        self.check_sent(sent, self.to_each(others, talk + 3, *begins(newer)))
                        self.assertEqual(hand.running(), op)

    def test_without_members_ahead(self):
        for word, hand, talk, begins in self.phases(AHEAD):
            with self.subTest(word):
                sent = self.take(hand, 4, talk, "moved", 3, 9, NEWER, ())
                self.check_sent(sent, self.to_each(NEWER, talk + 1, *begins(9)))
                self.assertEqual(hand.at_place(), (9, NEWER, ()))

    def test_moved_once_more_while_it_helps(self):
        for word, hand, talk, begins in self.phases(()):
            with self.subTest(word):
                self.take(hand, 4, talk, "moved", 3, 4, (4, 5), OWN)
                self.check_idle(hand, 4, talk + 1, "moved", 3, 4, NEWER, (4, 5))
                sent = self.take(hand, 4, talk + 1, "moved", 3, 6, NEWER, (0, 5))
                self.take(hand, 0, talk + 2, "stood", 5, NEWER, (), ())
                self.assertEqual(hand.at_place(), (6, NEWER, (0, 5)))
                self.check_idle(hand, 2, talk + 3, "moved", 6, 6, NEWER, (0, 5))
                sent = self.take(hand, 2, talk + 3, "moved", 6, 8, (1, 2), (3,))
                sent = self.check_help(hand, sent, talk + 4, (8, (1, 2), (3,)))
                self.check_sent(sent, self.to_each((1, 2), talk + 6, *begins(8)))

    def test_what_is_known_stays_known(self):
        hand = hand_of(OWN, 3)
        hand.begin(("read", "a"))
        for home in (1, 4):
            self.take(hand, home, 1, "told", 3, "a", (2, 1), ((1, 1), (1, 2)))
        self.take(hand, 1, 2, "block", 3, (1, 1), "one")
        self.take(hand, 1, 2, "moved", 3, 4, (5,), ())
        sent = self.take(hand, 5, 3, "told", 4, "a", (2, 1), ((1, 1), (1, 2)))
        self.check_sent(sent, self.to_each((5,), 4, ("get", (4, (1, 2)))))
        self.take(hand, 5, 4, "block", 4, (1, 2), "two")
        self.check_ended(hand, ("read", (2, 1), "onetwo"))

    def test_the_same_new_head(self):
        hand = hand_of(OWN, 3)
        hand.begin(("write", "a", "text"))
        for home in (1, 4):
            self.take(hand, home, 1, "told", 3, "a", (2, 1), None)
        self.take(hand, 1, 2, "kept", 3, "a", (3, 7))
        self.take(hand, 4, 2, "moved", 3, 4, (5, 6), ())
        said = (("put", (4, (7, 1), "text")), ("head", (4, "a", (3, 7), ((7, 1),))))
        # As a new phase: whoever counted doesn't any more.
        self.check_sent(hand.again(), self.to_each((5, 6), 3, *said))
        self.check_sent(self.take(hand, 6, 3, "lacks", 4, "a", (3, 7), ((7, 1),)), self.to_each((6,), 3, *said))
        self.take(hand, 5, 3, "kept", 4, "a", (3, 7))
        self.take(hand, 6, 3, "kept", 4, "a", (3, 7))
        self.check_ended(hand, ("written", (3, 7)))
        # The next id and number go on behind those.
        hand.begin(("write", "a", "more"))
        self.take(hand, 5, 4, "told", 4, "a", (3, 7), ((7, 1),))
        sent = self.take(hand, 6, 4, "told", 4, "a", (3, 7), ((7, 1),))
        self.check_sent(sent, self.to_each((5, 6), 5, ("put", (4, (7, 2), "more")), ("head", (4, "a", (4, 7), ((7, 2),)))))

    def test_the_tick_of_a_lease_that_began_anew(self):
        hand = hand_of(OWN, 3)
        hand.begin(("lease", "a"))
        for _ in range(5):
            hand.tick()
        self.take(hand, 1, 1, "moved", 3, 4, (5,), OWN)
        self.take(hand, 5, 2, "stood", 3, (5,), (), ())
        hand.tick()
        self.take(hand, 5, 3, "installed", 4)
        hand.tick()
        self.take(hand, 5, 4, "granted", 4, "a", (2, 1), None)
        self.check_ended(hand, ("leased", (2, 1), None))
        for _ in range(2):
            self.assertEqual(hand.quick("a"), ((2, 1), None))
            hand.tick()
        self.assertIsNone(hand.quick("a"))


class TestRuns(HandCase):
    """Whole runs against homes that answer."""

    def test_move(self):
        dice = random.Random(51)
        for own, chosen in itertools.product(((3,), (0, 8), OWN, (0, 2, 3, 5, 8), tuple(range(9))), repeat=2):
            town, hand = Town(own, 2), hand_of(own, 2)
            self.assertEqual(town.done(hand, ("write", "a", "words to carry along")), ("written", (1, 7)))
            self.assertEqual(town.done(hand, ("write", "b", "x")), ("written", (1, 7)))
            self.assertEqual(town.done(hand, ("remove", "b")), ("removed", (2, 7)))
            away = dice.sample(own, (len(own) - 1) // 2)
            if (len(chosen) - len(set(chosen) & set(away))) * 2 <= len(chosen):
                away = ()
            self.assertEqual(town.done(hand, ("move", chosen), away, dice), ("moved", 3, chosen))
            self.assertEqual(hand.at_place(), (3, chosen, own))
            for home in set(chosen) - set(away):
                self.assertIn(town.tables[home][0], (2, 3))
            done = [home for home in chosen if town.tables[home][:3] == (3, chosen, own)]
            self.assertGreater(2 * len(done), len(chosen))
            for home in done:
                # The block to which nothing leads wasn't carried.
                self.assertEqual(town.tables[home][5], (((7, 1), "words to"), ((7, 2), " carry a"), ((7, 3), "long")))
            self.assertEqual(town.done(hand, ("read", "a")), ("read", (1, 7), "words to carry along"))
            self.assertEqual(town.done(hand, ("names",)), ("names", ("a",)))
            self.assertEqual(town.done(hand, ("carry",)), ("carried", 3))
            # A hand that knows the elder place finds the newer one.
            other = hand_of(own, 2, number=9)
            self.assertEqual(town.done(other, ("write", "a", "newer")), ("written", (2, 9)))
            self.assertEqual(other.at_place(), (3, chosen, own))
            late = hand_of(own, 2, number=8)
            self.assertEqual(town.done(late, ("move", (0,))), ("moved", 3, chosen))
            self.assertEqual(late.at_place(), (3, chosen, own))

    def test_half_a_move_is_helped(self):
        """A hand that moves is gone behind any number of letters; another one reads what was written all the same."""
        for many in range(0, 60):
            town, hand = Town(OWN, 2), hand_of(OWN, 2)
            town.done(hand, ("write", "a", "words to carry along"))
            bag = list(hand.begin(("move", NEWER)))
            for _ in range(many):
                if bag:
                    letter = bag.pop(0)
                    bag += hand.take(letter) if letter[0][0] == "hand" else town.read(letter)
            for op in (("read", "a"), ("lease", "a"), ("copy", "a", "b"), ("write", "a", "newer"), ("names",)):
                twin = Town(OWN, 2)
                twin.tables = dict(town.tables)
                other = hand_of(OWN, 2, number=9)
                result = twin.done(other, op)
                wanted = {
                    "read": ("read", (1, 7), "words to carry along"), "lease": ("leased", (1, 7), "words to carry along"),
                    "copy": ("copied", (1, 9)), "write": ("written", (2, 9)), "names": ("names", ("a",)),
                }
                self.assertEqual(result, wanted[op[0]])
                epochs = [twin.tables[home][0] for home in OWN]
                self.assertIn(other.at_place(), ((2, OWN, ()), (3, NEWER, OWN)))
                # Once some home is sealed, or keeps the next epoch, the hand that asks it goes on to it.
                if other.at_place()[0] == 3:
                    self.assertTrue([home for home in OWN if twin.tables[home][9] == NEWER or epochs[0] == 3])
                third = hand_of(OWN, 2, number=5)
                moved = twin.done(third, ("move", (0, 3)))
                self.assertIn(moved, (("moved", 3, NEWER), ("moved", 3, (0, 3))))
                if other.at_place()[0] == 3:
                    self.assertEqual(moved, ("moved", 3, NEWER))

    def test_two_moves_choose_one(self):
        dice = random.Random(52)
        chosen = {}
        for _ in range(120):
            town = Town(OWN, 2)
            hands = {7: hand_of(OWN, 2), 8: hand_of(OWN, 2, number=8)}
            bag = list(hands[7].begin(("move", (0, 1)))) + list(hands[8].begin(("move", (2, 5, 8))))
            for _ in range(2000):
                if all([hand.running() is None for hand in hands.values()]):
                    break
                if not bag or dice.random() < 0.02:
                    bag += hands[dice.choice((7, 8))].again()
                    continue
                letter = bag.pop(dice.randrange(len(bag)))
                if dice.random() < 0.1:
                    continue
                bag += hands[letter[0][1]].take(letter) if letter[0][0] == "hand" else town.read(letter)
            results = [hands[number].result() for number in (7, 8)]
            self.assertEqual(results[0], results[1])
            self.assertIn(results[0], (("moved", 3, (0, 1)), ("moved", 3, (2, 5, 8))))
            chosen[results[0]] = True
            self.assertEqual(hands[7].at_place(), hands[8].at_place())
        self.assertEqual(len(chosen), 2)

    def test_a_lease_holds_a_move_off(self):
        town = Town(OWN, 2)
        hand, other = hand_of(OWN, 2), hand_of(OWN, 2, number=9)
        town.done(other, ("lease", "a"))
        town.run(hand, hand.begin(("move", NEWER)))
        for _ in range(8):
            town.run(hand, hand.again())
            self.assertEqual(hand.running(), ("move", NEWER))
            for home in OWN:
                town.do(home, ("tick",))
        town.run(hand, hand.again())
        self.check_ended(hand, ("moved", 3, NEWER))

    def test_carry_to_a_home_that_missed_the_move(self):
        town, hand = Town(OWN, 2), hand_of(OWN, 2)
        town.done(hand, ("write", "a", "words"))
        self.assertEqual(town.done(hand, ("move", NEWER), away=(8,)), ("moved", 3, NEWER))
        self.assertEqual(town.tables[8][0], -1)
        self.assertEqual(town.done(hand, ("carry",), away=(1, 4)), ("carried", 3))
        self.assertEqual(town.tables[8][:3], (3, NEWER, OWN))
        self.assertEqual(head_of(town.tables[8], "a"), ((1, 7), ((7, 1),)))

    def test_homes_that_are_behind_are_helped(self):
        # Home 2 alone has the newer epoch; the hand's place was told by it, and the others are bare.
        town = Town(OWN, 2)
        hand = hand_of(OWN, 2)
        town.done(hand, ("write", "a", "words"))
        for home in OWN:
            town.do(home, ("seal", NEWER))
        table = town.tables[1]
        town.do(2, ("install", 3, NEWER, OWN, table[4], table[5]))
        other = hand_of(NEWER, 3, OWN, number=9)
        town.run(other, other.begin(("read", "a")))
        self.assertEqual(other.running(), ("read", "a"))
        town.run(other, other.again())
        self.check_ended(other, ("read", (1, 7), "words"))
        self.assertEqual([town.tables[home][0] for home in NEWER], [3, 3, 3])

    def test_equal_calls_give_equal_results(self):
        for _ in range(2):
            runs = []
            for _ in range(2):
                town, hand = Town(OWN, 2), hand_of(OWN, 2)
                town.done(hand, ("write", "a", "words"), order=random.Random(3))
                town.done(hand, ("move", NEWER), order=random.Random(4))
                town.done(hand, ("carry",), order=random.Random(5))
                runs.append(town.deeds)
            self.assertEqual(runs[0], runs[1])


if __name__ == "__main__":
    unittest.main()
