"""[12] and [13]: hands that read, write, remove, copy, list, lease and free."""

import copy
import itertools
import random
import unittest

from homeshold.errors import Busy, NoLetter, NoName, NoOp
from homeshold.hands import Hand
from homeshold.tables import head_of
from samples import NO_MEMBERS, NO_NAMES, STRANGE, in_lists, nested, spoilt
from town import HandCase, Town, hand_of, look

FIVE = (0, 2, 3, 5, 8)
ROW = ((1, 2), (1, 1), (1, 2))
PIECES = {(1, 1): "say", (1, 2): "one two ", (3, 1): "three"}
OPS = (
    ("read", "a"), ("write", "a", "some words"), ("remove", "a"), ("copy", "a", "b"), ("names",), ("lease", "a"), ("free", "a"),
    ("move", (0, 1)), ("carry",),
)


class TestOps(HandCase):
    NO_TEXTS = (None, 0, True, "x" * 97, "a\n", "\n", (), ("a",), ["a"], {}, nested("a", 29), "x" * 20000)

    def test_good(self):
        for op in OPS + (("write", "zzzzzzzz", ""), ("write", "a", "~" * 96), ("copy", "a", "a"), ("move", tuple(range(9))),
                         ("move", (8,)), ("write", "a", "b")):
            hand = hand_of(FIVE)
            hand.begin(op)
            self.assertEqual(hand.running(), None if op == ("carry",) else op)

    def test_no_op(self):
        wrongs = list(STRANGE)
        for op in OPS:
            wrongs += [op[:many] for many in range(len(op))] + [op + (part,) for part in (None, "a", (0, 1), ())]
            wrongs += [list(op), (op,), (op[0] + "s",) + op[1:], (op[0].upper(),) + op[1:]]
        for word in ("read", "remove", "lease", "free"):
            wrongs += [(word, name) for name in NO_NAMES]
        for name in NO_NAMES:
            wrongs += [("write", name, "text"), ("copy", name, "a"), ("copy", "a", name)]
        wrongs += [("write", "a", text) for text in self.NO_TEXTS]
        wrongs += [("move", members) for members in NO_MEMBERS]
        wrongs += [("ask", "a"), ("", "a"), (None, "a"), (0, "a"), (["read"], "a"), (("read",), "a"), ({}, "a")]
        idle, busy = hand_of(FIVE), hand_of(FIVE)
        busy.begin(("read", "b"))
        for op in wrongs:
            # NoOp comes ahead of Busy.
            self.check_refused(NoOp, idle, idle.begin, op)
            self.check_refused(NoOp, busy, busy.begin, op)

    def test_busy(self):
        for first in OPS[:8]:
            hand = hand_of(FIVE)
            hand.begin(first)
            for op in OPS:
                self.check_refused(Busy, hand, hand.begin, op)
            self.assertEqual(hand.running(), first)

    def test_nothing_changes(self):
        for op in (["read", "a"], ("write", "a", ["b", {"c": []}]), ("move", [0, 1]), in_lists(0, 30)):
            before = copy.deepcopy(op)
            hand = hand_of(FIVE)
            self.check_refused(NoOp, hand, hand.begin, op)
            self.check_refused(NoLetter, hand, hand.take, op)
            self.assertEqual(op, before)


    def test_names_and_texts_that_are_words(self):
        for word in ("read", "write", "remove", "copy", "names", "lease", "free", "move", "carry"):
            town, hand = Town((3,)), hand_of((3,))
            self.assertEqual(town.done(hand, ("write", word, word)), ("written", (1, 7)))
            self.assertEqual(town.done(hand, ("lease", word)), ("leased", (1, 7), word))
            for op in (("read", "a"), ("write", "a", word), ("remove", "a"), ("copy", "a", "b"), ("names",), ("lease", "a"), ("free", "a"),
                       ("carry",)):
                self.assertIsNotNone(town.done(hand, op))
                self.assertEqual(hand.quick(word), ((1, 7), word))
            self.assertEqual(town.done(hand, ("names",)), ("names", (word,)))
            self.assertEqual(town.done(hand, ("read", word)), ("read", (1, 7), word))
            self.assertEqual(town.done(hand, ("copy", word, "a")), ("copied", (3, 7)))


    def test_words_ahead_of_a_help(self):
        # Only the operation carry begins with a SEAL.
        for op in OPS[:8] + (("read", "carry"), ("write", "a", "carry"), ("copy", "a", "carry"), ("lease", "carry")):
            hand = hand_of((1, 4), 3, (0, 5))
            sent = hand.begin(op)
            words = {"names": "list", "lease": "lease", "free": "free", "move": "prepare"}
            self.assertEqual([letter[3] for letter in sent], [words.get(op[0], "ask")] * 2)


class TestFresh(HandCase):
    def test_told(self):
        for epoch, members, ahead in ((0, (3,), ()), (4, FIVE, (1, 2)), (10 ** 11, tuple(range(9)), (8,))):
            hand = Hand(99, epoch, members, ahead)
            self.assertIsNone(hand.running())
            self.assertIsNone(hand.result())
            self.assertEqual(hand.at_place(), (epoch, members, ahead))
            self.assertEqual(hand.again(), ())
            self.assertIsNone(hand.tick())
            self.assertIsNone(hand.quick("a"))
            self.assertIsInstance(hand.copy(), Hand)

    def test_letters_to_nobody(self):
        hand = hand_of(FIVE)
        for talk in (0, 1, 2):
            self.check_idle(hand, 0, talk, "told", 0, "a", (1, 1), None)
            self.check_idle(hand, 0, talk, "moved", 0, 5, (1, 2), (0,))
            self.check_idle(hand, 0, talk, "behind", 0)


class TestLetters(HandCase):
    def test_no_letter(self):
        good = (("hand", 7), ("home", 0), 1, "told", (0, "a", (1, 1), None))
        for op in (None,) + OPS[:8]:
            hand = hand_of(FIVE)
            if op:
                hand.begin(op)
            for letter in STRANGE + (good[:4], good + (1,), list(good), (good,)):
                self.check_refused(NoLetter, hand, hand.take, letter)
            for at, part in ((0, ("hand", 6)), (0, ("hand", 100)), (0, ("home", 7)), (0, ["hand", 7]), (0, None), (1, ("hand", 7)),
                             (1, ("home", 9)), (2, -1), (2, True), (3, "ask"), (3, "sums"), (3, "Told"), (4, (0, "a", (1, 1))),
                             (4, [0, "a", (1, 1), None]), (4, (0, "A", (1, 1), None)), (4, (-1, "a", (1, 1), None))):
                self.check_refused(NoLetter, hand, hand.take, spoilt(good, at, part))
            self.check_refused(NoLetter, hand, hand.take, (("home", 0), ("hand", 7), 1, "ask", (0, "a")))
            self.check_refused(NoLetter, hand, hand.take, (("home", 0), ("home", 1), 0, "sums", (0, 2)))

    def test_no_name(self):
        for op in (None, ("lease", "a")):
            hand = hand_of((0,))
            if op:
                hand.begin(op)
                self.take(hand, 0, 1, "granted", 0, "a", (0, 0), None)
            for name in NO_NAMES:
                self.check_refused(NoName, hand, hand.quick, name)


class TestAsk(HandCase):
    def test_letters(self):
        for members, epoch in (((0,), 0), ((3, 8), 4), (FIVE, 10 ** 11), (tuple(range(9)), 1)):
            for op in (("read", "a"), ("write", "a", "x"), ("remove", "a"), ("copy", "a", "b")):
                hand = hand_of(members, epoch)
                asked = self.to_each(members, 1, ("ask", (epoch, "a")))
                self.begun(hand, op, asked)
                for _ in range(3):
                    self.check_sent(hand.again(), asked)

    def test_majorities(self):
        for members in ((4,), (0, 1), (1, 2, 3), (0, 1, 2, 3), FIVE, tuple(range(1, 9)), tuple(range(9))):
            for homes in itertools.islice(itertools.permutations(members), 30):
                hand = hand_of(members, 3)
                hand.begin(("read", "a"))
                needed = len(members) // 2 + 1
                for home in homes[:needed - 1]:
                    self.assertEqual(self.take(hand, home, 1, "told", 3, "a", (2, 2), None), ())
                    self.assertEqual(hand.running(), ("read", "a"))
                    # An answer that comes twice counts once.
                    self.check_idle(hand, home, 1, "told", 3, "a", (2, 2), None)
                    self.check_idle(hand, home, 1, "told", 3, "a", (9, 9), ((1, 1),))
                left = sorted(homes[needed - 1:])
                self.check_sent(hand.again(), self.to_each(left, 1, ("ask", (3, "a"))))
                self.assertEqual(self.take(hand, homes[needed - 1], 1, "told", 3, "a", (2, 2), None), ())
                self.check_ended(hand, ("read", (2, 2), None))

    def test_what_changes_nothing(self):
        hand = hand_of(FIVE, 3)
        hand.begin(("read", "a"))
        self.take(hand, 0, 1, "told", 3, "a", (1, 1), None)
        for talk in (0, 2, 5):
            self.check_idle(hand, 2, talk, "told", 3, "a", (1, 1), None)
            self.check_idle(hand, 2, talk, "moved", 3, 4, (1,), FIVE)
        for home in (1, 4, 6, 7):
            self.check_idle(hand, home, 1, "told", 3, "a", (1, 1), None)
            self.check_idle(hand, home, 1, "moved", 3, 4, (1,), FIVE)
            self.check_idle(hand, home, 1, "behind", 3)
        for word, rest in (("names", (("a",),)), ("block", ((1, 1), "x")), ("none", ((1, 1),)), ("have", ((1, 1),)), ("kept", ("a", (1, 1))),
                           ("lacks", ("a", (1, 1), ())), ("leased", ()), ("granted", ("a", (1, 1), None)), ("freed", ("a",)),
                           ("promised", ((1, 1), None)), ("voted", ((1, 1),)), ("beaten", ((1, 1),)), ("sealed", ((0,), (), ())),
                           ("stood", ((0,), (), ())), ("installed", ())):
            for home in (0, 2, 3):
                self.check_idle(hand, home, 1, word, 3, *rest)
        self.take(hand, 2, 1, "told", 3, "a", (1, 1), None)
        self.take(hand, 8, 1, "told", 3, "a", (1, 1), None)
        self.check_ended(hand, ("read", (1, 1), None))


class TestFinding(HandCase):
    def asked(self, heads, op=("read", "a"), members=(1, 4, 6), known=(), word="told"):
        """A hand whose homes told these heads, and what it wrote then."""
        hand = hand_of(members, 3)
        hand.begin(op)
        for home, head in zip(members, heads):
            sent = self.take(hand, home, 1, word, 3, "a", *head)
        return hand, sent

    def test_alike_without_a_file(self):
        for head, text in ((((0, 0), None), None), (((5, 5), None), None), (((5, 5), ()), "")):
            hand, sent = self.asked([head, head])
            self.assertEqual(sent, ())
            self.check_ended(hand, ("read", head[0], text))

    def test_alike_with_pieces(self):
        hand, sent = self.asked([((5, 5), ROW)] * 2)
        # The ids ascend, each once; home 6 wasn't needed and isn't asked.
        self.check_sent(sent, self.to_each((1, 4), 2, ("get", (3, (1, 1))), ("get", (3, (1, 2)))))
        self.assertEqual(self.take(hand, 4, 2, "block", 3, (1, 2), "one two "), ())
        self.check_idle(hand, 1, 2, "block", 3, (1, 2), "one two ")
        self.check_idle(hand, 6, 2, "block", 3, (1, 1), "say")
        self.check_idle(hand, 1, 1, "block", 3, (1, 1), "say")
        self.check_idle(hand, 6, 1, "told", 3, "a", (9, 9), None)
        # None of what is known already changes nothing.
        self.check_idle(hand, 1, 2, "none", 3, (1, 2))
        self.assertEqual(hand.running(), ("read", "a"))
        self.assertEqual(self.take(hand, 1, 2, "block", 3, (1, 1), "say"), ())
        self.check_ended(hand, ("read", (5, 5), "one two sayone two "))

    def test_the_top_of_unlike_heads(self):
        heads = [((5, 5), ROW), ((2, 9), None), ((5, 4), ((3, 1),))]
        for order in itertools.permutations(range(3)):
            members = (0, 1, 2, 3, 4)
            hand = hand_of(members, 3)
            hand.begin(("read", "a"))
            for home, k in zip((3, 0, 2), order):
                sent = self.take(hand, home, 1, "told", 3, "a", *heads[k])
            teller = (3, 0, 2)[order.index(0)]
            self.check_sent(sent, self.to_each((teller,), 2, ("get", (3, (1, 1))), ("get", (3, (1, 2)))))
            self.check_idle(hand, (teller + 1) % 5, 2, "block", 3, (1, 1), "say")
            self.take(hand, teller, 2, "block", 3, (1, 1), "say")
            sent = self.take(hand, teller, 2, "block", 3, (1, 2), "one two ")
            said = (("put", (3, (1, 1), "say")), ("put", (3, (1, 2), "one two ")), ("head", (3, "a", (5, 5), ROW)))
            self.check_sent(sent, self.to_each(members, 3, *said))
            self.check_sent(hand.again(), self.to_each(members, 3, *said))
            for home in (4, 1):
                self.assertEqual(self.take(hand, home, 3, "kept", 3, "a", (5, 5)), ())
            self.check_sent(hand.again(), self.to_each((0, 2, 3), 3, *said))
            self.assertEqual(hand.running(), ("read", "a"))
            self.assertEqual(self.take(hand, 3, 3, "kept", 3, "a", (5, 5)), ())
            self.check_ended(hand, ("read", (5, 5), "one two sayone two "))

    def test_unlike_without_pieces(self):
        # A GET that ends at once has no talk.
        for top, text in ((((5, 5), None), None), (((5, 5), ()), "")):
            for heads in ([top, ((5, 4), ROW)], [((0, 0), None), top], [((5, 4), ((3, 1),)), top]):
                hand, sent = self.asked(heads)
                self.check_sent(sent, self.to_each((1, 4, 6), 2, ("head", (3, "a") + top)))
                self.take(hand, 1, 2, "kept", 3, "a", top[0])
                self.take(hand, 6, 2, "kept", 3, "a", top[0])
                self.check_ended(hand, ("read", top[0], text))

    def test_words_that_no_get_names(self):
        hand, _ = self.asked([((5, 5), ROW)] * 2)
        for word, rest in (("told", ("a", (9, 9), None)), ("names", (("a",),)), ("have", ((1, 1),)), ("kept", ("a", (1, 1))),
                           ("lacks", ("a", (5, 5), ((1, 1),))), ("leased", ()), ("granted", ("a", (9, 9), None)), ("freed", ("a",)),
                           ("promised", ((1, 1), None)), ("voted", ((1, 1),)), ("beaten", ((1, 1),)), ("sealed", ((0,), (), ())),
                           ("stood", ((0,), (), ())), ("installed", ())):
            self.check_idle(hand, 1, 2, word, 3, *rest)

    def test_heads_of_one_stamp(self):
        rows = (None, (), ((1, 1),), ((1, 1), (1, 1)), ((1, 2),))
        for first, second in itertools.permutations(range(len(rows)), 2):
            hand, sent = self.asked([((5, 5), rows[first]), ((5, 5), rows[second])])
            top = rows[max(first, second)]
            if top:
                self.check_sent(sent, self.to_each(((1, 4)[first < second],), 2, ("get", (3, top[0]))))
                sent = self.take(hand, (1, 4)[first < second], 2, "block", 3, top[0], "x")
            # They aren't alike.
            self.assertEqual(sent[-1][3:], ("head", (3, "a", (5, 5), top)))

    def test_none(self):
        hand, _ = self.asked([((5, 5), ROW)] * 2)
        self.take(hand, 1, 2, "block", 3, (1, 1), "say")
        asked = self.to_each((1, 4, 6), 3, ("ask", (3, "a")))
        self.check_sent(self.take(hand, 4, 2, "none", 3, (1, 2)), asked)
        self.check_sent(hand.again(), asked)
        self.check_idle(hand, 1, 2, "block", 3, (1, 2), "one two ")
        self.check_idle(hand, 4, 2, "none", 3, (1, 2))
        self.take(hand, 6, 3, "told", 3, "a", (6, 1), ((1, 1), (3, 1)))
        sent = self.take(hand, 4, 3, "told", 3, "a", (6, 1), ((1, 1), (3, 1)))
        # What is known stays known.
        self.check_sent(sent, self.to_each((4, 6), 4, ("get", (3, (3, 1)))))
        self.take(hand, 6, 4, "block", 3, (3, 1), "three")
        self.check_ended(hand, ("read", (6, 1), "saythree"))

    def test_again_in_a_get(self):
        hand, _ = self.asked([((5, 5), ROW)] * 2)
        self.take(hand, 1, 2, "block", 3, (1, 2), "one two ")
        self.check_sent(hand.again(), self.to_each((1, 4, 6), 3, ("ask", (3, "a"))))
        self.take(hand, 1, 3, "told", 3, "a", (5, 5), ROW)
        sent = self.take(hand, 4, 3, "told", 3, "a", (5, 5), ROW)
        self.check_sent(sent, self.to_each((1, 4), 4, ("get", (3, (1, 1)))))
        self.check_sent(hand.again(), self.to_each((1, 4, 6), 5, ("ask", (3, "a"))))
        self.take(hand, 1, 5, "told", 3, "a", (6, 1), ((1, 2),))
        # All is known already: the GET ends at once.
        self.assertEqual(self.take(hand, 4, 5, "told", 3, "a", (6, 1), ((1, 2),)), ())
        self.check_ended(hand, ("read", (6, 1), "one two "))
        # What was known is known to that operation only.
        hand.begin(("read", "a"))
        self.take(hand, 1, 6, "told", 3, "a", (6, 1), ((1, 2),))
        sent = self.take(hand, 4, 6, "told", 3, "a", (6, 1), ((1, 2),))
        self.check_sent(sent, self.to_each((1, 4), 7, ("get", (3, (1, 2)))))


class TestSay(HandCase):
    def said(self, op=("write", "a", "one two three"), members=(1, 4, 6), told=((0, 0), None)):
        hand = hand_of(members, 3)
        hand.begin(op)
        for home in members[:len(members) // 2 + 1]:
            sent = self.take(hand, home, 1, "told", 3, "a", *told)
        return hand, sent

    def test_write(self):
        for text, pieces in (("", ()), ("x", ("x",)), ("12345678", ("12345678",)), ("123456789", ("12345678", "9")),
                             ("~" * 96, ("~" * 8,) * 12)):
            hand, sent = self.said(("write", "a", text))
            row = tuple([(7, k + 1) for k in range(len(pieces))])
            said = [("put", (3, block_id, piece)) for block_id, piece in zip(row, pieces)] + [("head", (3, "a", (1, 7), row))]
            self.check_sent(sent, self.to_each((1, 4, 6), 2, *said))
            self.take(hand, 4, 2, "kept", 3, "a", (1, 7))
            self.check_sent(hand.again(), self.to_each((1, 6), 2, *said))
            self.take(hand, 6, 2, "kept", 3, "a", (1, 7))
            self.check_ended(hand, ("written", (1, 7)))

    def test_remove(self):
        hand, sent = self.said(("remove", "a"), told=((8, 9), ROW))
        self.check_sent(sent, self.to_each((1, 4, 6), 2, ("head", (3, "a", (9, 7), None))))
        self.take(hand, 1, 2, "kept", 3, "a", (9, 7))
        self.take(hand, 4, 2, "kept", 3, "a", (9, 7))
        self.check_ended(hand, ("removed", (9, 7)))

    def test_what_counts(self):
        hand, _ = self.said()
        for home in (1, 4, 6):
            self.check_idle(hand, home, 2, "kept", 3, "a", (1, 6))
            self.check_idle(hand, home, 2, "kept", 3, "a", (2, 7))
            self.check_idle(hand, home, 1, "kept", 3, "a", (1, 7))
            self.check_idle(hand, home, 3, "kept", 3, "a", (1, 7))
            self.check_idle(hand, home, 2, "have", 3, (7, 1))
            self.check_idle(hand, home, 2, "leased", 3)
            self.check_idle(hand, home, 2, "told", 3, "a", (1, 7), None)
        self.check_idle(hand, 0, 2, "kept", 3, "a", (1, 7))
        self.take(hand, 1, 2, "kept", 3, "a", (1, 7))
        self.check_idle(hand, 1, 2, "kept", 3, "a", (1, 7))
        self.take(hand, 6, 2, "kept", 3, "a", (1, 7))
        self.check_ended(hand, ("written", (1, 7)))

    def test_lacks(self):
        hand, _ = self.said(("write", "a", "one two three four"))
        puts = {1: ("put", (3, (7, 1), "one two ")), 2: ("put", (3, (7, 2), "three fo")), 3: ("put", (3, (7, 3), "ur"))}
        head = ("head", (3, "a", (1, 7), ((7, 1), (7, 2), (7, 3))))
        for ids, told in (((1,), (1,)), ((1, 3), (1, 3)), ((2, 3), (2, 3)), ((1, 2, 3), (1, 2, 3)), ((), ()), ((3, 4), (3,)), ((5,), ())):
            for home in (1, 4, 6):
                sent = self.take(hand, home, 2, "lacks", 3, "a", (1, 7), tuple([(7, k) for k in ids]))
                self.check_sent(sent, self.to_each((home,), 2, *([puts[k] for k in told] + [head])))
        self.check_sent(hand.again(), self.to_each((1, 4, 6), 2, puts[1], puts[2], puts[3], head))
        self.check_idle(hand, 0, 2, "lacks", 3, "a", (1, 7), ((7, 1),))
        self.check_idle(hand, 1, 1, "lacks", 3, "a", (1, 7), ((7, 1),))

    def test_new_heads(self):
        # A stamp is above all that was told, and all that this hand used for the name.
        hand = hand_of((0, 1, 2))
        talk = 0
        for name, heads, wanted in (
                ("a", ((0, 0), (0, 0)), 1), ("a", ((0, 0), (0, 0)), 2), ("a", ((2, 7), (9, 3)), 10), ("a", ((0, 0), (4, 4)), 11),
                ("b", ((0, 0), (0, 0)), 1), ("b", ((5, 5), (1, 1)), 6), ("a", ((11, 7), (11, 9)), 12), ("b", ((10 ** 11, 1), (3, 3)), 10 ** 11 + 1)):
            hand.begin(("remove", name))
            talk += 2
            for home, stamp in enumerate(heads):
                sent = self.take(hand, home, talk - 1, "told", 0, name, stamp, None)
            self.check_sent(sent, self.to_each((0, 1, 2), talk, ("head", (0, name, (wanted, 7), None))))
            for home in (0, 1):
                self.take(hand, home, talk, "kept", 0, name, (wanted, 7))
            self.check_ended(hand, ("removed", (wanted, 7)))

    def test_ids_go_on(self):
        hand = hand_of((0,))
        last = 0
        written = (
            (("write", "a", "x" * 20), 3), (("write", "b", ""), 0), (("write", "a", "y"), 1), (("remove", "a"), 0),
            (("write", "c", "z" * 96), 12),
        )
        for k, (op, many) in enumerate(written):
            hand.begin(op)
            sent = self.take(hand, 0, 2 * k + 1, "told", 0, op[1], (0, 0), None)
            ids = tuple([(7, last + j + 1) for j in range(many)])
            last += many
            self.assertEqual([letter[4][1] for letter in sent[:-1]], list(ids))
            self.assertEqual(sent[-1][4][3], None if op[0] == "remove" else ids)
            self.take(hand, 0, 2 * k + 2, "kept", 0, op[1], sent[-1][4][2])


class TestCopy(HandCase):
    def test_with_a_text(self):
        hand = hand_of((1, 4, 6), 3)
        self.begun(hand, ("copy", "a", "b"), self.to_each((1, 4, 6), 1, ("ask", (3, "a"))))
        self.take(hand, 1, 1, "told", 3, "a", (5, 5), ROW)
        self.check_sent(self.take(hand, 4, 1, "told", 3, "a", (5, 5), ROW),
                        self.to_each((1, 4), 2, ("get", (3, (1, 1))), ("get", (3, (1, 2)))))
        self.take(hand, 1, 2, "block", 3, (1, 1), "say")
        asked = self.to_each((1, 4, 6), 3, ("ask", (3, "b")))
        self.check_sent(self.take(hand, 1, 2, "block", 3, (1, 2), "one two "), asked)
        self.check_sent(hand.again(), asked)
        self.take(hand, 6, 3, "told", 3, "b", (8, 1), ((3, 1),))
        sent = self.take(hand, 4, 3, "told", 3, "b", (2, 1), None)
        said = (("put", (3, (1, 1), "say")), ("put", (3, (1, 2), "one two ")), ("head", (3, "b", (9, 7), ROW)))
        # The head that was found is unlike; it isn't said, for the name gets a new one.
        self.check_sent(sent, self.to_each((1, 4, 6), 4, *said))
        sent = self.take(hand, 4, 4, "lacks", 3, "b", (9, 7), ((1, 2),))
        self.check_sent(sent, self.to_each((4,), 4, said[1], said[2]))
        self.take(hand, 6, 4, "kept", 3, "b", (9, 7))
        self.take(hand, 4, 4, "kept", 3, "b", (9, 7))
        self.check_ended(hand, ("copied", (9, 7)))

    def test_of_unlike_heads(self):
        hand = hand_of((1, 4, 6), 3)
        hand.begin(("copy", "a", "b"))
        self.take(hand, 1, 1, "told", 3, "a", (4, 5), None)
        self.check_sent(self.take(hand, 4, 1, "told", 3, "a", (5, 5), ((3, 1),)), self.to_each((4,), 2, ("get", (3, (3, 1)))))
        said = (("put", (3, (3, 1), "three")), ("head", (3, "a", (5, 5), ((3, 1),))))
        self.check_sent(self.take(hand, 4, 2, "block", 3, (3, 1), "three"), self.to_each((1, 4, 6), 3, *said))
        self.take(hand, 4, 3, "kept", 3, "a", (5, 5))
        self.check_sent(self.take(hand, 6, 3, "kept", 3, "a", (5, 5)), self.to_each((1, 4, 6), 4, ("ask", (3, "b"))))

    def test_without_a_text(self):
        for row in (None, ()):
            for name in ("b", "a"):
                hand = hand_of((1, 4, 6), 3)
                hand.begin(("copy", "a", name))
                self.take(hand, 1, 1, "told", 3, "a", (5, 5), row)
                self.check_sent(self.take(hand, 4, 1, "told", 3, "a", (5, 5), row), self.to_each((1, 4, 6), 2, ("ask", (3, name))))
                self.take(hand, 1, 2, "told", 3, name, (5, 5), ROW)
                sent = self.take(hand, 4, 2, "told", 3, name, (5, 5), ROW)
                self.check_sent(sent, self.to_each((1, 4, 6), 3, ("head", (3, name, (6, 7), row))))
                self.take(hand, 1, 3, "kept", 3, name, (6, 7))
                self.take(hand, 4, 3, "kept", 3, name, (6, 7))
                self.check_ended(hand, ("copied", (6, 7)))

    def test_numbers_are_of_the_other_name(self):
        town = Town((0,))
        hand = hand_of((0,))
        for _ in range(3):
            town.done(hand, ("write", "a", "x"))
        self.assertEqual(town.done(hand, ("copy", "a", "b")), ("copied", (1, 7)))
        self.assertEqual(town.done(hand, ("copy", "a", "b")), ("copied", (2, 7)))
        self.assertEqual(town.done(hand, ("copy", "b", "a")), ("copied", (4, 7)))


class TestNames(HandCase):
    def test_told(self):
        hand = hand_of(FIVE, 3)
        self.begun(hand, ("names",), self.to_each(FIVE, 1, ("list", (3,))))
        self.take(hand, 2, 1, "names", 3, ("b", "z"))
        self.check_idle(hand, 2, 1, "names", 3, ("q",))
        self.take(hand, 8, 1, "names", 3, ())
        self.check_idle(hand, 3, 1, "told", 3, "a", (1, 1), ROW)
        self.check_sent(hand.again(), self.to_each((0, 3, 5), 1, ("list", (3,))))
        self.take(hand, 0, 1, "names", 3, ("a", "b"))
        self.check_ended(hand, ("names", ("a", "b", "z")))

    def test_none(self):
        hand = hand_of((3,))
        hand.begin(("names",))
        self.take(hand, 3, 1, "names", 0, ())
        self.check_ended(hand, ("names", ()))


class TestLease(HandCase):
    def leased(self, heads=(((5, 5), ()),) * 2, hand=None):
        hand = hand or hand_of((1, 4, 6), 3)
        talk = hand.begin(("lease", "a"))[0][2]
        for home, head in zip((4, 6), heads):
            sent = self.take(hand, home, talk, "granted", 3, "a", *head)
        return hand, sent

    def test_letters(self):
        hand = hand_of((1, 4, 6), 3)
        leased = self.to_each((1, 4, 6), 1, ("lease", (3, "a")))
        self.begun(hand, ("lease", "a"), leased)
        self.check_sent(hand.again(), leased)
        self.check_idle(hand, 1, 1, "told", 3, "a", (1, 1), None)
        self.take(hand, 6, 1, "granted", 3, "a", (5, 5), ROW)
        self.check_sent(hand.again(), self.to_each((1, 4), 1, ("lease", (3, "a"))))
        sent = self.take(hand, 4, 1, "granted", 3, "a", (4, 5), ROW)
        self.check_sent(sent, self.to_each((6,), 2, ("get", (3, (1, 1))), ("get", (3, (1, 2)))))
        self.take(hand, 6, 2, "block", 3, (1, 1), "say")
        sent = self.take(hand, 6, 2, "block", 3, (1, 2), "one two ")
        said = (("put", (3, (1, 1), "say")), ("put", (3, (1, 2), "one two ")), ("head", (3, "a", (5, 5), ROW)))
        self.check_sent(sent, self.to_each((1, 4, 6), 3, *said))
        self.assertIsNone(hand.quick("a"))
        self.take(hand, 6, 3, "kept", 3, "a", (5, 5))
        self.take(hand, 4, 3, "kept", 3, "a", (5, 5))
        self.check_ended(hand, ("leased", (5, 5), "one two sayone two "))
        self.assertEqual(hand.quick("a"), ((5, 5), "one two sayone two "))

    def test_results(self):
        for head, text in ((((0, 0), None), None), (((5, 5), None), None), (((5, 5), ()), "")):
            hand, sent = self.leased((head, head))
            self.assertEqual(sent, ())
            self.check_ended(hand, ("leased", head[0], text))
            self.assertEqual(hand.quick("a"), (head[0], text))

    def test_none_and_again_begin_the_lease_phase_anew(self):
        for how in (lambda hand, talk: self.take(hand, 4, talk, "none", 3, (3, 1)), lambda hand, talk: hand.again()):
            hand, _ = self.leased((((5, 5), ((3, 1),)),) * 2)
            hand.tick()
            hand.tick()
            self.check_sent(how(hand, 2), self.to_each((1, 4, 6), 3, ("lease", (3, "a"))))
            for home in (4, 6):
                self.take(hand, home, 3, "granted", 3, "a", (6, 5), ())
            self.check_ended(hand, ("leased", (6, 5), ""))
            # It is held from the tick at which its phase began last.
            for _ in range(2):
                self.assertEqual(hand.quick("a"), ((6, 5), ""))
                hand.tick()
            self.assertEqual(hand.quick("a"), ((6, 5), ""))
            hand.tick()
            self.assertIsNone(hand.quick("a"))

    def test_again_in_the_lease_phase_does_not_begin_it_anew(self):
        hand = hand_of((1, 4, 6), 3)
        hand.begin(("lease", "a"))
        hand.tick()
        hand.again()
        hand.tick()
        for home in (4, 6):
            self.take(hand, home, 1, "granted", 3, "a", (5, 5), ())
        self.assertEqual(hand.quick("a"), ((5, 5), ""))
        hand.tick()
        self.assertIsNone(hand.quick("a"))

    def test_free(self):
        hand = hand_of(FIVE, 3)
        freed = self.to_each(FIVE, 1, ("free", (3, "a")))
        self.begun(hand, ("free", "a"), freed)
        self.take(hand, 0, 1, "freed", 3, "a")
        self.check_idle(hand, 0, 1, "freed", 3, "a")
        self.take(hand, 5, 1, "freed", 3, "a")
        self.check_sent(hand.again(), self.to_each((2, 3, 8), 1, ("free", (3, "a"))))
        self.take(hand, 8, 1, "freed", 3, "a")
        self.check_ended(hand, ("freed",))


class TestQuick(HandCase):
    def held(self, ticks=0):
        """A hand that holds a lease at a, with so many ticks between the begin of its phase and the end."""
        hand = hand_of((1,), 3)
        hand.begin(("lease", "a"))
        for _ in range(ticks):
            hand.tick()
        self.take(hand, 1, 1, "granted", 3, "a", (5, 5), ())
        return hand

    def test_ticks(self):
        for ahead in range(5):
            hand = self.held(ahead)
            for ticks in range(ahead, 8):
                for _ in range(2):
                    self.assertEqual(hand.quick("a"), ((5, 5), "") if ticks <= 2 else None)
                hand.tick()

    def test_other_names(self):
        hand = self.held()
        for name in ("b", "aa", "c"):
            self.assertIsNone(hand.quick(name))

    def test_what_holds_no_lease(self):
        town, hand = Town((3,)), hand_of((3,))
        for op in (("read", "a"), ("write", "a", "x"), ("read", "a"), ("copy", "a", "b"), ("remove", "b"), ("free", "a")):
            town.done(hand, op)
            self.assertEqual((hand.quick("a"), hand.quick("b")), (None, None))

    def test_operations_that_name_it(self):
        for op, names in ((("read", "a"), True), (("write", "a", "x"), True), (("remove", "a"), True), (("copy", "a", "b"), True),
                          (("copy", "b", "a"), True), (("lease", "a"), True), (("free", "a"), True), (("read", "b"), False),
                          (("write", "b", "a"), False), (("copy", "b", "c"), False), (("names",), False), (("move", (1,)), False),
                          (("carry",), False), (("lease", "b"), False)):
            hand = self.held()
            hand.begin(op)
            self.assertEqual(hand.quick("a"), None if names else ((5, 5), ""))
            hand = self.held()
            self.check_refused(NoOp, hand, hand.begin, op + ("a",))
            self.assertEqual(hand.quick("a"), ((5, 5), ""))

    def test_refused_operations_change_nothing(self):
        hand = self.held()
        hand.begin(("read", "b"))
        self.check_refused(Busy, hand, hand.begin, ("read", "a"))
        self.assertEqual(hand.quick("a"), ((5, 5), ""))

    def test_a_lease_that_is_held_anew(self):
        hand = self.held()
        for _ in range(3):
            hand.tick()
        self.assertIsNone(hand.quick("a"))
        hand.begin(("lease", "a"))
        self.assertIsNone(hand.quick("a"))
        self.take(hand, 1, 2, "granted", 3, "a", (6, 5), None)
        self.assertEqual(hand.quick("a"), ((6, 5), None))

    def test_none_while_the_operation_runs(self):
        hand = self.held()
        hand.begin(("free", "a"))
        self.assertIsNone(hand.quick("a"))
        self.take(hand, 1, 2, "freed", 3, "a")
        self.assertIsNone(hand.quick("a"))

    def test_two_leases(self):
        hand = self.held()
        hand.tick()
        hand.begin(("lease", "b"))
        self.take(hand, 1, 2, "granted", 3, "b", (1, 1), None)
        hand.tick()
        self.assertEqual((hand.quick("a"), hand.quick("b")), (((5, 5), ""), ((1, 1), None)))
        hand.tick()
        self.assertEqual((hand.quick("a"), hand.quick("b")), (None, ((1, 1), None)))
        hand.tick()
        self.assertEqual((hand.quick("a"), hand.quick("b")), (None, None))


class TestCopies(HandCase):
    def test_they_go_on_apart(self):
        """At each letter of a run a copy is made; it goes on like the hand, and neither changes the other."""
        for op in OPS:
            town = Town((0, 1, 2), 3, (1, 2, 3)) if op == ("carry",) else Town((0, 1, 2), 3)
            if op == ("carry",):
                town.do(3, ("install", 2, (1, 2, 3), (), (), ()))
            hand = hand_of((0, 1, 2), 3, (1, 2, 3) if op == ("carry",) else ())
            if op != ("carry",):
                town.done(hand, ("write", "a", "the elder words"))
            elder = look(hand)
            twin = hand.copy()
            bag = list(hand.begin(op))
            self.assertEqual(look(twin), elder)
            twins, steps = [], 0
            while bag:
                letter = bag.pop(0)
                if letter[0][0] == "home":
                    bag += town.read(letter)
                    continue
                twin = hand.copy()
                before = look(twin)
                twins.append((twin, letter, before))
                written = hand.take(letter)
                # The copy isn't changed by what the hand reads, and writes the same when it reads it.
                self.assertEqual(look(twin), before)
                third = twin.copy()
                self.assertEqual(third.take(letter), written)
                self.assertEqual(look(third), look(hand))
                self.assertEqual(look(twin), before)
                bag += written
                steps += 1
            self.assertIsNone(hand.running())
            self.assertGreater(steps, 1)
            for twin, letter, before in twins:
                self.assertEqual(look(twin), before)

    def test_of_what_a_hand_used(self):
        hand = hand_of((0,))
        town = Town((0,))
        town.done(hand, ("write", "a", "x" * 16))
        town.done(hand, ("lease", "a"))
        twin = hand.copy()
        for it in (hand, twin):
            other = Town((0,))
            self.assertEqual(it.quick("a"), ((1, 7), "x" * 16))
            it.begin(("write", "a", "y"))
            sent = it.take((("hand", 7), ("home", 0), 5, "told", (0, "a", (0, 0), None)))
            self.check_sent(sent, self.to_each((0,), 6, ("put", (0, (7, 3), "y")), ("head", (0, "a", (2, 7), ((7, 3),)))))
            other.run(it, sent)
            it.tick()
            self.assertEqual(it.result(), ("written", (2, 7)))

    def test_ticks_of_copies(self):
        hand = hand_of((0,))
        Town((0,)).done(hand, ("lease", "a"))
        twin = hand.copy()
        for _ in range(3):
            twin.tick()
        self.assertEqual((hand.quick("a"), twin.quick("a")), (((0, 0), None), None))
        twin = hand.copy()
        hand.begin(("write", "a", "x"))
        self.assertEqual((hand.quick("a"), twin.quick("a")), (None, ((0, 0), None)))


class TestRuns(HandCase):
    """Each operation from its begin to its result, against homes that answer."""

    def check_run(self, members, order=None, away=()):
        town = Town(members, 4)
        hand = hand_of(members, 4)

        def done(*op):
            return town.done(hand, op, away, order)

        self.assertEqual(done("read", "a"), ("read", (0, 0), None))
        self.assertEqual(done("names"), ("names", ()))
        self.assertEqual(done("write", "a", "to each home its own"), ("written", (1, 7)))
        self.assertEqual(done("read", "a"), ("read", (1, 7), "to each home its own"))
        self.assertEqual(done("copy", "a", "b"), ("copied", (1, 7)))
        self.assertEqual(done("write", "a", ""), ("written", (2, 7)))
        self.assertEqual(done("read", "b"), ("read", (1, 7), "to each home its own"))
        self.assertEqual(done("read", "a"), ("read", (2, 7), ""))
        self.assertEqual(done("names"), ("names", ("a", "b")))
        self.assertEqual(done("lease", "b"), ("leased", (1, 7), "to each home its own"))
        self.assertEqual(hand.quick("b"), ((1, 7), "to each home its own"))
        self.assertEqual(done("remove", "b"), ("removed", (2, 7)))
        self.assertEqual(done("lease", "b"), ("leased", (2, 7), None))
        self.assertEqual(done("names"), ("names", ("a",)))
        self.assertEqual(done("copy", "c", "a"), ("copied", (3, 7)))
        self.assertEqual(done("read", "a"), ("read", (3, 7), None))
        self.assertEqual(done("free", "b"), ("freed",))
        self.assertEqual(done("carry"), ("carried", 4))
        holds = [home for home in members if head_of(town.tables[home], "a") == ((3, 7), None)]
        self.assertGreater(2 * len(holds), len(members))
        return town

    def test_members(self):
        for members in ((4,), (0, 8), (1, 2, 3), FIVE, tuple(range(9))):
            self.check_run(members)
            few = (len(members) - 1) // 2
            self.check_run(members, away=members[:few])
            self.check_run(members, away=members[len(members) - few:])

    def test_any_order(self):
        dice = random.Random(41)
        for members in ((4,), (0, 8), (1, 2, 3), FIVE, tuple(range(9))):
            for _ in range(12):
                few = dice.randrange((len(members) - 1) // 2 + 1)
                self.check_run(members, dice, dice.sample(members, few))

    def test_equal_calls_give_equal_results(self):
        for members in ((1, 2, 3), FIVE):
            runs = [self.check_run(members, random.Random(5)).deeds for _ in range(2)]
            self.assertEqual(runs[0], runs[1])

    def test_too_few_homes(self):
        for members in ((4,), (0, 8), (1, 2, 3), FIVE):
            town, hand = Town(members), hand_of(members)
            needed = len(members) // 2 + 1
            for op in OPS[:8]:
                twin = hand.copy()
                town.run(twin, twin.begin(op), members[:len(members) - needed + 1])
                self.assertEqual(twin.running(), op)
                for _ in range(3):
                    town.run(twin, twin.again(), members[:len(members) - needed + 1])
                    self.assertEqual(twin.running(), op)

    def test_two_hands(self):
        town = Town(FIVE)
        one, other = hand_of(FIVE, number=1), hand_of(FIVE, number=2)
        self.assertEqual(town.done(one, ("write", "a", "one"), (0, 2)), ("written", (1, 1)))
        self.assertEqual(town.done(other, ("read", "a"), (5, 8)), ("read", (1, 1), "one"))
        self.assertEqual(town.done(other, ("write", "a", "other")), ("written", (2, 2)))
        self.assertEqual(town.done(one, ("read", "a"), (0, 2)), ("read", (2, 2), "other"))
        self.assertEqual(town.done(one, ("write", "a", "more"), (0, 2)), ("written", (3, 1)))
        # A lease of the other hand keeps new heads off until it ends.
        self.assertEqual(town.done(other, ("lease", "a")), ("leased", (3, 1), "more"))
        town.run(one, one.begin(("remove", "a")))
        town.run(one, one.again())
        self.assertEqual(one.running(), ("remove", "a"))
        self.assertEqual(town.done(other, ("free", "a")), ("freed",))
        town.run(one, one.again())
        self.check_ended(one, ("removed", (4, 1)))


if __name__ == "__main__":
    unittest.main()
