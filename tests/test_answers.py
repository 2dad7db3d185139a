"""[11]: what a home does with a letter of a hand."""

import copy
import itertools
import random
import unittest

from homeshold.answers import answer
from homeshold.errors import HomeError, NoHomeNumber, NoLetter, NoTable
from homeshold.letters import is_letter
from homeshold.tables import behind, head_of, is_closed, is_table, led_blocks
from samples import BARE, NO_HOMES, STRANGE, TABLE, in_lists, nested, spoilt

EPOCH, MEMBERS, AHEAD, CLOCK, HEADS, BLOCKS, LEASES, PROMISE, VOTED, NEXT = range(10)
HOME = 2
SEALED = spoilt(TABLE, NEXT, (1, 4))
LED = (((1, 1), "one"), ((2, 7), "two"), ((4, 2), "four"))
# Of TABLE: epoch 3, clock 20, leases in force at a of the hands 1 and 7, ended at b and cab.
UNLEASED = spoilt(TABLE, LEASES, (("a", 1, 4, 20), ("b", 7, 3, 5)))
RESTS = {
    "ask": (3, "a"), "list": (3,), "get": (3, (1, 1)), "put": (3, (1, 1), "one"), "head": (3, "a", (3, 1), None),
    "lease": (3, "a"), "free": (3, "a"), "prepare": (3, (5, 1)), "accept": (3, (5, 1), (0, 2)), "seal": (3, (0, 2)),
    "install": (3, (0, 2), (0, 2, 5), (), ()),
}
INSTALLED = (("x", (4, 4), ((1, 1),)),), (((1, 1), "xx"),)


class AnswerCase(unittest.TestCase):
    def check_answer(self, table, word, rest, deeds, *answers, hand=6, talk=11):
        """A home with this table does just this with the letter; returns the table behind it."""
        letter = (("home", HOME), ("hand", hand), talk, word, rest)
        self.assertTrue(is_letter(letter), letter)
        wanted = (tuple(deeds), tuple([(("hand", hand), ("home", HOME), talk, told, parts) for told, parts in answers]))
        before = repr((table, letter))
        for _ in range(2):
            found = answer(HOME, table, letter)
            self.assertEqual(found, wanted)
            self.assertEqual(repr(found), repr(wanted))
        self.assertEqual(repr((table, letter)), before)
        for sent in found[1]:
            self.assertTrue(is_letter(sent), sent)
        for deed in found[0]:
            table = behind(table, deed)
        return table

    def check_error(self, error, home, table, letter):
        before = repr((home, table, letter))
        with self.assertRaises(HomeError) as caught:
            answer(home, table, letter)
        self.assertIs(type(caught.exception), error)
        self.assertEqual(repr((home, table, letter)), before)


def rest_of(word, epoch):
    return (epoch,) + RESTS[word][1:]


class TestInstall(AnswerCase):
    def test_a_later_epoch(self):
        for epoch in (4, 5, 10 ** 11):
            for table in (TABLE, SEALED, BARE):
                rest = (epoch, (0, 2), (0, 2, 5)) + INSTALLED
                found = self.check_answer(table, "install", rest, (("install",) + rest,), ("installed", (epoch,)))
                self.assertEqual(found, (epoch, (0, 2), (0, 2, 5), table[CLOCK]) + INSTALLED + ((), (0, 0), None, None))
                self.check_answer(found, "install", rest, (), ("installed", (epoch,)))
        rest = (0, (2,), (), (), ())
        self.check_answer(BARE, "install", rest, (("install",) + rest,), ("installed", (0,)))

    def test_the_same_epoch(self):
        for table in (TABLE, SEALED):
            self.check_answer(table, "install", (3, (8,), (), ()) + ((),), (), ("installed", (3,)))

    def test_an_earlier_epoch(self):
        for table in (TABLE, SEALED):
            for epoch in (0, 1, 2):
                self.check_answer(table, "install", (epoch, (8,), (), (), ()), (), ("moved", (epoch, 3, (0, 2, 5), (1, 2))))


class TestOtherEpochs(AnswerCase):
    def test_a_home_that_went_on(self):
        for table in (TABLE, SEALED):
            for epoch in (0, 1, 2):
                for word in RESTS:
                    if word == "seal" and epoch == 2:
                        told = ("stood", (2, (0, 2, 5), TABLE[HEADS], LED))
                    else:
                        told = ("moved", (epoch, 3, (0, 2, 5), (1, 2)))
                    self.check_answer(table, word, rest_of(word, epoch), (), told)

    def test_without_members_ahead(self):
        table = spoilt(TABLE, AHEAD, ())
        self.check_answer(table, "ask", (2, "a"), (), ("moved", (2, 3, (0, 2, 5), ())))
        self.check_answer(table, "seal", (2, (1,)), (), ("stood", (2, (0, 2, 5), TABLE[HEADS], LED)))

    def test_the_blocks_that_stood_tells(self):
        for heads, blocks in (((), ()), ((("a", (1, 1), ((7, 7),)),), ()), ((("a", (1, 1), ((2, 7), (2, 7))),), LED[1:2])):
            table = spoilt(TABLE, HEADS, heads)
            self.check_answer(table, "seal", (2, (1,)), (), ("stood", (2, (0, 2, 5), heads, blocks)))
            table = spoilt(table, NEXT, (1,))
            self.check_answer(table, "seal", (3, (1,)), (), ("sealed", (3, (1,), heads, blocks)))

    def test_a_home_that_is_behind(self):
        for table in (TABLE, SEALED, BARE, spoilt(BARE, CLOCK, 9)):
            for epoch in (4, 5, 10 ** 11):
                for word in RESTS:
                    if word != "install":
                        self.check_answer(table, word, rest_of(word, epoch), (), ("behind", (epoch,)))
        for word in RESTS:
            if word != "install":
                self.check_answer(BARE, word, rest_of(word, 0), (), ("behind", (0,)))

    def test_a_sealed_home(self):
        for word in RESTS:
            if word == "seal":
                told = ("sealed", (3, (1, 4), TABLE[HEADS], LED))
            elif word == "install":
                told = ("installed", (3,))
            else:
                told = ("moved", (3, 4, (1, 4), (0, 2, 5)))
            self.check_answer(SEALED, word, RESTS[word], (), told)
        self.check_answer(spoilt(SEALED, LEASES, ()), "seal", (3, (8,)), (), ("sealed", (3, (1, 4), TABLE[HEADS], LED)))


class TestReading(AnswerCase):
    def test_ask(self):
        for name, stamp, row in TABLE[HEADS]:
            self.check_answer(TABLE, "ask", (3, name), (), ("told", (3, name, stamp, row)))
        for name in ("aa", "c", "zzzzzzzz"):
            self.check_answer(TABLE, "ask", (3, name), (), ("told", (3, name, (0, 0), None)))

    def test_list(self):
        self.check_answer(TABLE, "list", (3,), (), ("names", (3, ("a", "cab", "d"))))
        self.check_answer(spoilt(TABLE, HEADS, ()), "list", (3,), (), ("names", (3, ())))
        self.check_answer(spoilt(TABLE, HEADS, (("b", (1, 1), None),)), "list", (3,), (), ("names", (3, ())))

    def test_get(self):
        for block_id, piece in TABLE[BLOCKS]:
            self.check_answer(TABLE, "get", (3, block_id), (), ("block", (3, block_id, piece)))
        for block_id in ((1, 3), (7, 2), (99, 2)):
            self.check_answer(TABLE, "get", (3, block_id), (), ("none", (3, block_id)))

    def test_put(self):
        for block_id, piece in TABLE[BLOCKS]:
            for told in (piece, "other"):
                self.check_answer(TABLE, "put", (3, block_id, told), (), ("have", (3, block_id)))
        for block_id in ((1, 3), (7, 2), (99, 2)):
            deed = ("put", block_id, "new")
            found = self.check_answer(TABLE, "put", (3, block_id, "new"), (deed,), ("have", (3, block_id)))
            self.check_answer(found, "put", (3, block_id, "new"), (), ("have", (3, block_id)))
            self.check_answer(found, "get", (3, block_id), (), ("block", (3, block_id, "new")))


class TestHead(AnswerCase):
    def check_kept(self, table, name, stamp, row, hand=6):
        deed = ("head", name, stamp, row)
        found = self.check_answer(table, "head", (3, name, stamp, row), (deed,), ("kept", (3, name, stamp)), hand=hand)
        self.assertEqual(head_of(found, name), (stamp, row))
        self.check_answer(found, "head", (3, name, stamp, row), (), ("kept", (3, name, stamp)), hand=hand)

    def test_kept(self):
        for name, stamp in (("a", (2, 2)), ("a", (3, 1)), ("b", (1, 5)), ("c", (1, 1)), ("cab", (6, 1)), ("zz", (10 ** 11, 99))):
            for row in (None, (), ((1, 1),), ((4, 2), (99, 1), (4, 2)), ((1, 2),) * 12):
                self.check_kept(UNLEASED, name, stamp, row)

    def test_no_new_stamp(self):
        # Kept stands ahead of leased, and leased ahead of lacks.
        for table in (UNLEASED, TABLE):
            for stamp in ((0, 0), (1, 1), (1, 99), (2, 1)):
                for row in (None, (), ((1, 1),), ((8, 8),)):
                    self.check_answer(table, "head", (3, "a", stamp, row), (), ("kept", (3, "a", stamp)))
        self.check_answer(UNLEASED, "head", (3, "new", (0, 0), ((8, 8),)), (), ("kept", (3, "new", (0, 0))))

    def test_leased(self):
        for row in (None, (), ((1, 1),), ((8, 8),)):
            for hand in (1, 7, 6, 99):
                self.check_answer(TABLE, "head", (3, "a", (2, 2), row), (), ("leased", (3,)), hand=hand)

    def test_whose_lease(self):
        for leases, hand, leased in (
                ((("a", 1, 4, 21),), 1, False), ((("a", 1, 4, 21),), 2, True), ((("a", 1, 4, 20),), 2, False),
                ((("a", 1, 4, 19),), 2, False), ((("a", 1, 4, 1000),), 2, True), ((("b", 1, 4, 1000),), 2, False),
                ((("aa", 1, 4, 1000),), 2, False), ((("a", 1, 4, 21), ("a", 2, 4, 20)), 1, False),
                ((("a", 1, 4, 21), ("a", 2, 4, 21)), 1, True), ((("a", 1, 4, 20), ("a", 2, 4, 21)), 1, True), ((), 1, False)):
            table = spoilt(TABLE, LEASES, leases)
            if leased:
                self.check_answer(table, "head", (3, "a", (2, 2), ()), (), ("leased", (3,)), hand=hand)
                self.check_answer(table, "head", (3, "a", (2, 2), ((8, 8),)), (), ("leased", (3,)), hand=hand)
            else:
                self.check_kept(table, "a", (2, 2), (), hand=hand)

    def test_lacks(self):
        for row, ids in ((((8, 8),), ((8, 8),)), (((1, 1), (1, 3)), ((1, 3),)), (((8, 8), (1, 1), (7, 9), (8, 8)), ((7, 9), (8, 8))),
                         (((2, 1), (1, 9), (1, 10), (1, 9)), ((1, 9), (1, 10), (2, 1)))):
            self.check_answer(UNLEASED, "head", (3, "a", (2, 2), row), (), ("lacks", (3, "a", (2, 2), ids)))
            self.check_answer(UNLEASED, "head", (3, "new", (1, 1), row), (), ("lacks", (3, "new", (1, 1), ids)))
            self.check_answer(TABLE, "head", (3, "b", (1, 5), row), (), ("lacks", (3, "b", (1, 5), ids)))
            table = UNLEASED
            for block_id in ids:
                deed = ("put", block_id, "p")
                table = self.check_answer(table, "put", (3, block_id, "p"), (deed,), ("have", (3, block_id)))
            self.check_kept(table, "a", (2, 2), row)


class TestLeases(AnswerCase):
    def test_lease(self):
        for name, head in (("a", ((2, 1), ((1, 1), (2, 7), (1, 1)))), ("b", ((1, 4), None)), ("zz", ((0, 0), None))):
            for hand in (1, 6, 7, 99):
                for talk in (0, 4, 9, 11, 10 ** 11):
                    found = self.check_answer(TABLE, "lease", (3, name), (("lease", name, hand, talk),),
                                              ("granted", (3, name) + head), hand=hand, talk=talk)
                    mine = [lease for lease in found[LEASES] if lease[:2] == (name, hand)]
                    elder = [lease[2] for lease in TABLE[LEASES] if lease[:2] == (name, hand)] + [0]
                    self.assertEqual(mine, [(name, hand, max(talk, elder[0]), 28)])
                    self.check_answer(found, "lease", (3, name), (("lease", name, hand, talk),),
                                      ("granted", (3, name) + head), hand=hand, talk=talk)

    def test_free(self):
        for name, hand, talk, gone in (
                ("a", 1, 5, True), ("a", 1, 4, False), ("a", 1, 3, False), ("a", 7, 10, True), ("a", 7, 9, False), ("a", 6, 99, False),
                ("b", 7, 4, True), ("b", 7, 3, False), ("cab", 2, 1, True), ("cab", 2, 0, False), ("zz", 1, 99, False),
                ("b", 1, 99, False), ("d", 7, 99, False)):
            deeds = (("free", name, hand, talk),) if gone else ()
            found = self.check_answer(TABLE, "free", (3, name), deeds, ("freed", (3, name)), hand=hand, talk=talk)
            self.assertEqual((name, hand) in [lease[:2] for lease in found[LEASES]],
                             (name, hand) in [lease[:2] for lease in TABLE[LEASES]] and not gone)
            self.check_answer(found, "free", (3, name), (), ("freed", (3, name)), hand=hand, talk=talk)


class TestBallots(AnswerCase):
    def test_prepare(self):
        for ballot in ((0, 0), (1, 99), (3, 99), (4, 1)):
            self.check_answer(TABLE, "prepare", (3, ballot), (), ("beaten", (3, (4, 2))))
        self.check_answer(TABLE, "prepare", (3, (4, 2)), (), ("promised", (3, (4, 2), ((3, 1), (0, 1)))))
        for ballot in ((4, 3), (5, 1), (10 ** 11, 99)):
            told = ("promised", (3, ballot, ((3, 1), (0, 1))))
            found = self.check_answer(TABLE, "prepare", (3, ballot), (("promise", ballot),), told)
            self.assertEqual(found, spoilt(TABLE, PROMISE, ballot))
            self.check_answer(found, "prepare", (3, ballot), (), told)
            self.check_answer(found, "prepare", (3, (4, 2)), (), ("beaten", (3, ballot)))
        fresh = spoilt(spoilt(TABLE, PROMISE, (0, 0)), VOTED, None)
        self.check_answer(fresh, "prepare", (3, (0, 0)), (), ("promised", (3, (0, 0), None)))
        self.check_answer(fresh, "prepare", (3, (1, 1)), (("promise", (1, 1)),), ("promised", (3, (1, 1), None)))

    def test_accept(self):
        for ballot in ((0, 0), (3, 1), (3, 99), (4, 1)):
            self.check_answer(TABLE, "accept", (3, ballot, (0, 1)), (), ("beaten", (3, (4, 2))))
        for ballot in ((4, 2), (4, 3), (5, 1), (10 ** 11, 99)):
            for members in ((0, 1), (5,)):
                told = ("voted", (3, ballot))
                found = self.check_answer(TABLE, "accept", (3, ballot, members), (("vote", ballot, members),), told)
                self.assertEqual(found, spoilt(spoilt(TABLE, PROMISE, ballot), VOTED, (ballot, members)))
                self.check_answer(found, "accept", (3, ballot, members), (), told)
                self.check_answer(found, "prepare", (3, ballot), (), ("promised", (3, ballot, (ballot, members))))
                other = self.check_answer(found, "accept", (3, ballot, (7,)), (("vote", ballot, (7,)),), told)
                self.assertEqual(other[VOTED], (ballot, (7,)))


class TestSeal(AnswerCase):
    def test_leased(self):
        for leases in (TABLE[LEASES], (("z", 6, 0, 21),), (("a", 1, 0, 20), ("z", 9, 0, 1000))):
            for hand in (1, 6, 9):
                self.check_answer(spoilt(TABLE, LEASES, leases), "seal", (3, (1, 4)), (), ("leased", (3,)), hand=hand)

    def test_sealed(self):
        for leases in ((), (("a", 1, 4, 20),), (("a", 1, 4, 0), ("b", 2, 2, 19))):
            table = spoilt(TABLE, LEASES, leases)
            for members in ((1, 4), (0, 2, 5), (8,)):
                told = ("sealed", (3, members, TABLE[HEADS], LED))
                found = self.check_answer(table, "seal", (3, members), (("seal", members),), told)
                self.assertEqual(found, spoilt(table, NEXT, members))
                self.check_answer(found, "seal", (3, members), (), told)
                self.check_answer(found, "seal", (3, (7,)), (), told)
                self.check_answer(found, "ask", (3, "a"), (), ("moved", (3, 4, members, (0, 2, 5))))


class TestErrors(AnswerCase):
    def test_no_home_number(self):
        for home in NO_HOMES:
            for table, letter in ((TABLE, (("home", 2), ("hand", 1), 1, "ask", (3, "a"))), (None, None)):
                self.check_error(NoHomeNumber, home, table, letter)

    def test_no_table(self):
        for table in STRANGE + (BARE[:9], list(TABLE), spoilt(TABLE, CLOCK, -1), nested(0, 30), in_lists(0, 30)):
            for letter in ((("home", 2), ("hand", 1), 1, "ask", (3, "a")), None, ()):
                self.check_error(NoTable, HOME, table, letter)

    def test_no_letter(self):
        good = (("home", 2), ("hand", 1), 1, "ask", (3, "a"))
        for table in (TABLE, BARE, SEALED):
            for letter in STRANGE + (good[:4], good + (1,), list(good), (good,)):
                self.check_error(NoLetter, HOME, table, letter)
            for at, part in ((0, ("home", 1)), (0, ("home", 9)), (0, ("hand", 2)), (0, ["home", 2]), (1, ("home", 2)), (1, ("home", 1)),
                             (2, -1), (2, True), (3, "told"), (3, "sums"), (4, (3,)), (4, [3, "a"]), (4, (3, "A")), (4, (-1, "a"))):
                self.check_error(NoLetter, HOME, table, spoilt(good, at, part))
            self.check_error(NoLetter, HOME, table, (("hand", 1), ("home", 2), 1, "told", (3, "a", (1, 1), None)))
            self.check_error(NoLetter, HOME, table, (("hand", 2), ("home", 1), 1, "behind", (3,)))
        for home in range(9):
            if home != 2:
                self.check_error(NoLetter, home, TABLE, good)

    def test_nothing_changes(self):
        for letter in ([("home", 2), ("hand", 1), 1, "ask", [3, "a"]], (("home", 2), ("hand", 1), 1, "ask", [3, {"a": []}])):
            before = copy.deepcopy(letter)
            self.check_error(NoLetter, HOME, TABLE, letter)
            self.assertEqual(letter, before)


class TestFact(AnswerCase):
    """A closed table stays closed, stamps only rise, whatever letters come; the same letter again has no deed."""

    def letter(self, dice):
        word = dice.choice(("ask", "list", "get", "put", "put", "head", "head", "head", "lease", "free", "prepare", "accept", "seal"))
        epoch = dice.choice((0, 0, 0, 0, 0, 0, 1))
        name = dice.choice("abc")
        block_id = (dice.randrange(1, 4), dice.randrange(1, 4))
        ballot = (dice.randrange(1, 5), dice.randrange(1, 4))
        row = dice.choice((None, tuple([(dice.randrange(1, 4), dice.randrange(1, 4)) for _ in range(dice.randrange(4))])))
        rests = {
            "ask": (name,), "list": (), "get": (block_id,), "put": (block_id, "p"), "head": (name, ballot, row), "lease": (name,),
            "free": (name,), "prepare": (ballot,), "accept": (ballot, (0, 1)), "seal": ((0, 3),),
        }
        by = ("hand", dice.randrange(1, 4))
        return (("home", HOME), by, dice.randrange(20), word, (epoch,) + rests[word])

    def test_runs(self):
        dice = random.Random(21)
        words = {}
        for _ in range(150):
            table = behind(BARE, ("install", 0, (0, 1, 2), (), (), ()))
            for _ in range(60):
                if dice.random() < 0.2:
                    table = behind(table, dice.choice((("tick",), ("collect",), ("rise",), ("tick",), ("tick",))))
                    self.assertTrue(is_closed(table))
                    continue
                letter = self.letter(dice)
                elder = table
                deeds, letters = answer(HOME, table, letter)
                self.assertEqual(len(letters), 1)
                self.assertTrue(is_letter(letters[0]))
                self.assertEqual(letters[0][:3], (letter[1], letter[0], letter[2]))
                words[letters[0][3]] = True
                for deed in deeds:
                    table = behind(table, deed)
                self.assertTrue(is_table(table))
                self.assertTrue(is_closed(table))
                for name in "abc":
                    self.assertGreaterEqual(head_of(table, name)[0], head_of(elder, name)[0])
                if letters[0][3] != "none":
                    again = answer(HOME, table, letter)
                    if letter[3] not in ("lease", "list"):
                        self.assertEqual(again[0], ())
                    if letter[3] != "ask" and letters[0][3] != "lacks":
                        self.assertEqual(again[1], letters)
        self.assertEqual(sorted(words), sorted(
            ["told", "names", "block", "none", "have", "kept", "lacks", "leased", "granted", "freed", "promised", "voted", "beaten",
             "sealed", "moved", "behind"]))

    def test_led_blocks_of_each_home(self):
        for heads, blocks in itertools.product((TABLE[HEADS], ()), (TABLE[BLOCKS], ())):
            table = spoilt(spoilt(UNLEASED, HEADS, heads), BLOCKS, blocks)
            _, letters = answer(HOME, table, (("home", HOME), ("hand", 1), 1, "seal", (3, (1,))))
            self.assertEqual(letters[0][4], (3, (1,), heads, led_blocks(table)))


if __name__ == "__main__":
    unittest.main()
