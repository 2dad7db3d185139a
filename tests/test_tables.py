"""[9]: tables, deeds, and what is told of them."""

import copy
import itertools
import random
import unittest

from homeshold.errors import HomeError, NoDeed, NoName, NoTable
from homeshold.tables import bare_table, behind, head_of, is_closed, is_deed, is_table, led_blocks
from samples import (
    BARE, NO_AHEADS, NO_BLOCKS, NO_COUNTS, NO_HANDS, NO_HEADS, NO_IDS, NO_LEASES, NO_MEMBERS, NO_NAMES, NO_PIECES, NO_ROWS,
    NO_STAMPS, NO_VOTES, STRANGE, TABLE, in_lists, nested, spoilt,
)

EPOCH, MEMBERS, AHEAD, CLOCK, HEADS, BLOCKS, LEASES, PROMISE, VOTED, NEXT = range(10)
NO_NEXTS = tuple([thing for thing in NO_MEMBERS if thing is not None])
HEAD_PARTS = (("a", (1, 1), ((1, 1),)), ("z", (2, 2), None))
BLOCK_PARTS = (((1, 1), "x"), ((3, 3), "y y"))
# A good deed of each word, with what spoils each of its parts.
DEEDS = {
    "install": (("install", 4, (0, 1), (0, 2, 5), HEAD_PARTS, BLOCK_PARTS),
                (NO_COUNTS, NO_MEMBERS, NO_AHEADS, NO_HEADS, NO_BLOCKS)),
    "put": (("put", (1, 3), "piece"), (NO_IDS, NO_PIECES)),
    "head": (("head", "a", (3, 1), ((1, 1),)), (NO_NAMES, NO_STAMPS, NO_ROWS)),
    "lease": (("lease", "a", 1, 5), (NO_NAMES, NO_HANDS, NO_COUNTS)),
    "free": (("free", "a", 1, 5), (NO_NAMES, NO_HANDS, NO_COUNTS)),
    "promise": (("promise", (5, 1)), (NO_STAMPS,)),
    "vote": (("vote", (5, 1), (0, 2)), (NO_STAMPS, NO_MEMBERS)),
    "seal": (("seal", (0, 2)), (NO_MEMBERS,)),
    "tick": (("tick",), ()),
    "collect": (("collect",), ()),
    "rise": (("rise",), ()),
    "stand": (("stand", TABLE), ((None, (), BARE[:9], BARE + (None,), list(BARE), spoilt(TABLE, CLOCK, -1), "a"),)),
    "mend": (("mend", HEAD_PARTS, BLOCK_PARTS), (NO_HEADS, NO_BLOCKS)),
}


class TableCase(unittest.TestCase):
    def check_table(self, thing, wanted):
        before = repr(thing)
        for _ in range(2):
            self.assertIs(is_table(thing), wanted, before[:200])
        self.assertEqual(repr(thing), before)

    def check_deed(self, thing, wanted):
        before = repr(thing)
        for _ in range(2):
            self.assertIs(is_deed(thing), wanted, before[:200])
        self.assertEqual(repr(thing), before)

    def check_behind(self, table, deed, changes):
        """The table behind the deed is the one ahead but for these changed parts; the elder one stays."""
        before = repr((table, deed))
        wanted = table
        for at in changes:
            wanted = spoilt(wanted, at, changes[at])
        for _ in range(2):
            found = behind(table, deed)
            self.assertEqual(found, wanted)
            self.assertEqual(repr(found), repr(wanted))
        self.assertTrue(is_table(found))
        self.assertEqual(repr((table, deed)), before)
        return found


class TestBare(TableCase):
    def test_told(self):
        self.assertEqual(bare_table(), (-1, (), (), 0, (), (), (), (0, 0), None, None))
        self.assertIs(type(bare_table()), tuple)
        self.check_table(bare_table(), True)


class TestIsTable(TableCase):
    def test_good(self):
        for table in (BARE, TABLE, spoilt(TABLE, NEXT, (3, 4)), spoilt(TABLE, EPOCH, 0), spoilt(TABLE, AHEAD, ()),
                      (0, (0,), (), 0, (), (), (), (0, 0), None, None), (10 ** 12 - 1,) + TABLE[1:],
                      (7, tuple(range(9)), tuple(range(9)), 10 ** 12 - 1, (), (), (), (10 ** 12 - 1, 99),
                       ((0, 0), tuple(range(9))), tuple(range(9)))):
            self.check_table(table, True)

    def test_each_part(self):
        goods = {
            EPOCH: (0, 1, 2, 4, 10 ** 12 - 1), MEMBERS: ((0,), (8,), (1, 3), tuple(range(9))),
            AHEAD: ((), (0,), (8,), (0, 2, 5), tuple(range(9))), CLOCK: (0, 1, 10 ** 12 - 1),
            HEADS: ((), HEAD_PARTS, (("a", (0, 0), None),), (("a", (1, 1), ((1, 1),) * 12), ("ab", (1, 1), ())),
                    tuple([(name, (1, 1), None) for name in "abcxyz"])),
            BLOCKS: ((), BLOCK_PARTS, (((1, 1), "same"), ((1, 2), "same"), ((2, 1), "12345678"))),
            LEASES: ((), (("a", 1, 0, 0), ("a", 2, 0, 0), ("b", 1, 0, 0)), (("zzzzzzzz", 99, 10 ** 12 - 1, 10 ** 12 - 1),)),
            PROMISE: ((0, 0), (1, 1), (10 ** 12 - 1, 99)), VOTED: (None, ((0, 0), (0,)), ((5, 5), (1, 2))),
            NEXT: (None, (0,), tuple(range(9))),
        }
        for at in goods:
            for part in goods[at]:
                self.check_table(spoilt(TABLE, at, part), True)

    def test_each_part_spoilt(self):
        wrongs = {
            EPOCH: NO_COUNTS + (-2,), MEMBERS: NO_MEMBERS, AHEAD: NO_AHEADS, CLOCK: NO_COUNTS, HEADS: NO_HEADS, BLOCKS: NO_BLOCKS,
            LEASES: NO_LEASES, PROMISE: NO_STAMPS, VOTED: NO_VOTES, NEXT: NO_NEXTS,
        }
        for at in wrongs:
            for part in wrongs[at]:
                self.check_table(spoilt(TABLE, at, part), False)

    def test_epoch_minus_one(self):
        for at, parts in ((MEMBERS, ((0,), (0, 1))), (AHEAD, ((0,), (0, 1))), (HEADS, (HEAD_PARTS, (("a", (0, 0), None),))),
                          (BLOCKS, (BLOCK_PARTS,))):
            for part in parts:
                self.check_table(spoilt(BARE, at, part), False)
        for at, wrongs in ((MEMBERS, NO_MEMBERS), (AHEAD, NO_AHEADS), (HEADS, NO_HEADS), (BLOCKS, NO_BLOCKS), (CLOCK, NO_COUNTS),
                           (LEASES, NO_LEASES), (PROMISE, NO_STAMPS), (VOTED, NO_VOTES), (NEXT, NO_NEXTS)):
            for part in wrongs:
                if part != BARE[at] or isinstance(part, bool):
                    self.check_table(spoilt(BARE, at, part), False)
        self.check_table(spoilt(BARE, CLOCK, 17), True)
        self.check_table((-1,) + TABLE[1:], False)
        for epoch in (-2, -10, 0, 1, True, None, "-1", (-1,)):
            self.check_table(spoilt(BARE, EPOCH, epoch), False)

    def test_parts(self):
        for table in (BARE, TABLE):
            for many in range(10):
                self.check_table(table[:many], False)
            for part in (None, 0, ()):
                self.check_table(table + (part,), False)
            self.check_table(list(table), False)
            self.check_table((table,), False)
            self.check_table(table[1:] + table[:1], False)

    def test_none(self):
        for thing in STRANGE:
            self.check_table(thing, False)
            self.check_table((thing,) * 10, False)

    def test_lists_within(self):
        for at, part in ((HEADS, list(TABLE[HEADS])), (BLOCKS, list(TABLE[BLOCKS])), (LEASES, list(TABLE[LEASES])),
                         (MEMBERS, [0, 2, 5]), (AHEAD, [1, 2]), (PROMISE, [4, 2]), (VOTED, [(3, 1), (0, 1)]), (NEXT, [0])):
            self.check_table(spoilt(TABLE, at, part), False)


class TestIsDeed(TableCase):
    def test_good(self):
        self.assertEqual(len(DEEDS), 13)
        for word in DEEDS:
            self.check_deed(DEEDS[word][0], True)

    def test_edges(self):
        for deed in (("install", 0, (0,), (), (), ()), ("put", (99, 10 ** 12 - 1), "~" * 8), ("put", (1, 1), " "),
                     ("head", "zzzzzzzz", (0, 0), None), ("head", "a", (1, 1), ()), ("head", "a", (1, 99), ((1, 1),) * 12),
                     ("lease", "a", 99, 0), ("free", "a", 1, 0), ("promise", (0, 0)), ("vote", (0, 0), (8,)),
                     ("seal", tuple(range(9))), ("stand", BARE), ("stand", spoilt(TABLE, NEXT, (0,))), ("mend", (), ())):
            self.check_deed(deed, True)

    def test_each_part_spoilt(self):
        for word in DEEDS:
            deed, wrongs = DEEDS[word]
            self.assertEqual(len(deed), len(wrongs) + 1)
            for at in range(len(wrongs)):
                for part in wrongs[at]:
                    self.check_deed(spoilt(deed, at + 1, part), False)

    def test_parts(self):
        for word in DEEDS:
            deed = DEEDS[word][0]
            for many in range(len(deed)):
                self.check_deed(deed[:many], False)
            for part in (None, 0, (), "a"):
                self.check_deed(deed + (part,), False)
            self.check_deed(list(deed), False)
            self.check_deed((deed,), False)

    def test_another_word_s_parts(self):
        alike = (("lease", "free"), ("tick", "collect"), ("tick", "rise"), ("collect", "rise"))
        for word, other in itertools.product(DEEDS, DEEDS):
            thing = (word,) + DEEDS[other][0][1:]
            self.check_deed(thing, word == other or (word, other) in alike or (other, word) in alike)

    def test_words(self):
        for word in ("", "Put", "puts", "bare", "table", "ask", "sealed", None, 0, True, (), ("put",), ["put"], {"put": 1}):
            self.check_deed((word, (1, 3), "piece"), False)
            self.check_deed((word,), False)

    def test_none(self):
        for thing in STRANGE:
            self.check_deed(thing, False)


class TestInstall(TableCase):
    def test_told(self):
        deed = DEEDS["install"][0]
        wanted = (4, (0, 1), (0, 2, 5), 20, HEAD_PARTS, BLOCK_PARTS, (), (0, 0), None, None)
        for table in (TABLE, spoilt(TABLE, NEXT, (3,)), spoilt(BARE, CLOCK, 20)):
            self.assertEqual(behind(table, deed), wanted)
            self.assertEqual(behind(behind(table, deed), deed), wanted)

    def test_first(self):
        self.assertEqual(behind(BARE, ("install", 0, (3,), (), (), ())), (0, (3,), (), 0, (), (), (), (0, 0), None, None))

    def test_of_any_epoch(self):
        for epoch in (0, 2, 3, 10 ** 12 - 1):
            found = behind(TABLE, ("install", epoch, (1,), (), (), ()))
            self.assertEqual(found, (epoch, (1,), (), 20, (), (), (), (0, 0), None, None))


class TestPut(TableCase):
    def test_new(self):
        for block_id in ((1, 3), (3, 1), (99, 10 ** 11)):
            blocks = tuple(sorted(TABLE[BLOCKS] + ((block_id, "new"),)))
            table = self.check_behind(TABLE, ("put", block_id, "new"), {BLOCKS: blocks})
            self.assertEqual(behind(table, ("put", block_id, "new")), table)

    def test_in_the_place_of_another(self):
        for k, (block_id, piece) in enumerate(TABLE[BLOCKS]):
            blocks = spoilt(TABLE[BLOCKS], k, (block_id, "other"))
            self.check_behind(TABLE, ("put", block_id, "other"), {BLOCKS: blocks})
            self.check_behind(TABLE, ("put", block_id, piece), {})


class TestHead(TableCase):
    def test_new(self):
        for name in ("aa", "c", "zzzzzzzz"):
            for row in (None, (), ((8, 8), (1, 1))):
                heads = tuple(sorted(TABLE[HEADS] + ((name, (1, 9), row),), key=lambda head: head[0]))
                table = self.check_behind(TABLE, ("head", name, (1, 9), row), {HEADS: heads})
                self.assertEqual(behind(table, ("head", name, (1, 9), row)), table)

    def test_in_the_place_of_another(self):
        for k, (name, _, _) in enumerate(TABLE[HEADS]):
            for head in (((1, 1), None), ((100, 1), ()), ((0, 0), ((1, 1),)), ((0, 0), None)):
                self.check_behind(TABLE, ("head", name) + head, {HEADS: spoilt(TABLE[HEADS], k, (name,) + head)})


class TestLease(TableCase):
    def test_new(self):
        for name, hand in (("a", 2), ("b", 1), ("c", 99), ("z", 1), ("a", 99)):
            leases = tuple(sorted(TABLE[LEASES] + ((name, hand, 6, 28),)))
            table = self.check_behind(TABLE, ("lease", name, hand, 6), {LEASES: leases})
            self.check_behind(table, ("lease", name, hand, 6), {})

    def test_talks(self):
        # In force or just ended, with an until that is greater or lesser than the new one.
        for until in (0, 19, 20, 21, 27, 28, 29, 1000):
            table = spoilt(TABLE, LEASES, (("a", 1, 5, until), ("b", 1, 5, 3)))
            for talk in (0, 4, 5, 6, 10 ** 12 - 1):
                wanted = (("a", 1, max(5, talk), 28), ("b", 1, 5, 3))
                self.check_behind(table, ("lease", "a", 1, talk), {LEASES: wanted})

    def test_clocks(self):
        for clock in (0, 1, 10 ** 11):
            table = spoilt(spoilt(TABLE, CLOCK, clock), LEASES, ())
            self.check_behind(table, ("lease", "q", 3, 0), {LEASES: (("q", 3, 0, clock + 8),)})


class TestFree(TableCase):
    def test_talks(self):
        for until in (0, 20, 21, 1000):
            table = spoilt(TABLE, LEASES, (("a", 1, 5, until), ("a", 2, 1, 30), ("b", 1, 1, 30)))
            for talk in (0, 4, 5):
                self.check_behind(table, ("free", "a", 1, talk), {})
            for talk in (6, 7, 10 ** 12 - 1):
                found = self.check_behind(table, ("free", "a", 1, talk), {LEASES: table[LEASES][1:]})
                self.check_behind(found, ("free", "a", 1, talk), {})

    def test_none_there(self):
        for name, hand in (("a", 2), ("c", 1), ("b", 1), ("d", 7)):
            self.check_behind(TABLE, ("free", name, hand, 100), {})


class TestBallots(TableCase):
    def test_promise(self):
        for ballot in ((0, 0), (1, 1), (4, 1), (4, 2), (4, 3), (10 ** 12 - 1, 99)):
            self.check_behind(TABLE, ("promise", ballot), {PROMISE: ballot})

    def test_vote(self):
        for ballot in ((0, 0), (1, 1), (4, 2), (9, 9)):
            for members in ((0,), tuple(range(9))):
                for voted in (None, ((3, 1), (0, 1)), (ballot, members)):
                    table = spoilt(TABLE, VOTED, voted)
                    found = self.check_behind(table, ("vote", ballot, members), {PROMISE: ballot, VOTED: (ballot, members)})
                    self.check_behind(found, ("vote", ballot, members), {})

    def test_seal(self):
        for members in ((0,), (1, 2, 3)):
            found = self.check_behind(TABLE, ("seal", members), {NEXT: members})
            self.check_behind(found, ("seal", members), {})
            self.check_behind(found, ("seal", (5,)), {NEXT: (5,)})


class TestTick(TableCase):
    def test_leases_that_end(self):
        # Behind the tick the clock is 21: a lease until 21 is no more in force then.
        for until in (0, 5, 19, 20, 21, 22, 23, 1000):
            table = spoilt(TABLE, LEASES, (("a", 1, 3, until), ("b", 1, 0, 50)))
            stay = (("a", 1, 3, until),) if until > 21 else ()
            self.check_behind(table, ("tick",), {CLOCK: 21, LEASES: stay + (("b", 1, 0, 50),)})

    def test_eight_ticks(self):
        table = behind(TABLE, ("lease", "z", 5, 1))
        for _ in range(7):
            table = behind(table, ("tick",))
            self.assertIn(("z", 5, 1, 28), table[LEASES])
        table = behind(table, ("tick",))
        self.assertEqual((table[CLOCK], table[LEASES]), (28, ()))

    def test_bare(self):
        self.check_behind(BARE, ("tick",), {CLOCK: 1})


class TestCollect(TableCase):
    def test_told(self):
        blocks = (((1, 1), "one"), ((2, 7), "two"), ((4, 2), "four"))
        found = self.check_behind(TABLE, ("collect",), {BLOCKS: blocks})
        self.check_behind(found, ("collect",), {})

    def test_rows(self):
        blocks = (((1, 1), "x"), ((1, 2), "y"), ((3, 3), "z"))
        for heads, wanted in (
                ((), ()), ((("a", (1, 1), None),), ()), ((("a", (1, 1), ()),), ()), ((("a", (1, 1), ((7, 7),)),), ()),
                ((("a", (1, 1), ((1, 2), (1, 2))),), blocks[1:2]), ((("a", (1, 1), ((3, 3), (1, 1))),), blocks[::2]),
                ((("a", (1, 1), ((3, 3),)), ("b", (1, 1), ((3, 3), (1, 2)))), blocks[1:])):
            table = spoilt(spoilt(TABLE, HEADS, heads), BLOCKS, blocks)
            self.check_behind(table, ("collect",), {BLOCKS: wanted})
            self.assertEqual(led_blocks(table), wanted)

    def test_bare(self):
        self.check_behind(BARE, ("collect",), {})


class TestRise(TableCase):
    def test_told(self):
        leases = (("a", 1, 4, 28), ("a", 7, 9, 28), ("b", 7, 3, 28), ("cab", 2, 0, 28))
        found = self.check_behind(TABLE, ("rise",), {LEASES: leases})
        self.check_behind(found, ("rise",), {})
        longer = spoilt(TABLE, LEASES, (("a", 1, 4, 1000),))
        self.check_behind(longer, ("rise",), {LEASES: (("a", 1, 4, 28),)})

    def test_bare(self):
        self.check_behind(BARE, ("rise",), {})


class TestStand(TableCase):
    def test_told(self):
        for table in (BARE, TABLE, spoilt(TABLE, NEXT, (1,))):
            for other in (BARE, TABLE, spoilt(TABLE, EPOCH, 9), spoilt(BARE, CLOCK, 3)):
                self.assertEqual(behind(table, ("stand", other)), other)


class TestMend(TableCase):
    def test_stamps(self):
        for stamp in ((0, 0), (1, 99), (2, 1)):
            self.check_behind(TABLE, ("mend", (("a", stamp, None),), ()), {})
        for stamp in ((2, 2), (3, 1), (10 ** 12 - 1, 1)):
            for row in (None, (), ((4, 2),)):
                heads = spoilt(TABLE[HEADS], 0, ("a", stamp, row))
                found = self.check_behind(TABLE, ("mend", (("a", stamp, row),), ()), {HEADS: heads})
                self.check_behind(found, ("mend", (("a", stamp, row),), ()), {})

    def test_new_names(self):
        found = (("ab", (1, 1), ((7, 7),)), ("z", (1, 2), None))
        heads = TABLE[HEADS][:1] + found[:1] + TABLE[HEADS][1:] + found[1:]
        self.check_behind(TABLE, ("mend", found, ()), {HEADS: heads})
        self.check_behind(TABLE, ("mend", (("z", (0, 0), None),), ()), {})

    def test_some_of_them(self):
        told = (("a", (1, 5), ()), ("b", (1, 5), ((5, 5),)), ("c", (1, 1), None), ("cab", (5, 99), None), ("d", (8, 99), None))
        heads = (TABLE[HEADS][0], told[1], told[2], TABLE[HEADS][2], TABLE[HEADS][3])
        self.check_behind(TABLE, ("mend", told, ()), {HEADS: heads})

    def test_blocks(self):
        told = (((1, 1), "OTHER"), ((1, 3), "new"), ((99, 1), "OTHER"), ((99, 2), "newer"))
        blocks = tuple(sorted(TABLE[BLOCKS] + (told[1], told[3])))
        self.check_behind(TABLE, ("mend", (), told), {BLOCKS: blocks})

    def test_both(self):
        blocks = tuple(sorted(TABLE[BLOCKS] + (((5, 5), "five"),)))
        heads = spoilt(TABLE[HEADS], 1, ("b", (1, 5), ((5, 5),)))
        deed = ("mend", (("b", (1, 5), ((5, 5),)),), (((5, 5), "five"),))
        found = self.check_behind(TABLE, deed, {HEADS: heads, BLOCKS: blocks})
        self.check_behind(found, deed, {})


class TestBehind(TableCase):
    def check_error(self, error, table, deed):
        before = repr((table, deed))
        for _ in range(2):
            with self.assertRaises(HomeError) as caught:
                behind(table, deed)
            self.assertIs(type(caught.exception), error)
        self.assertEqual(repr((table, deed)), before)

    def test_no_table(self):
        for table in STRANGE + (BARE[:9], TABLE + (None,), list(TABLE), spoilt(TABLE, CLOCK, True), spoilt(BARE, MEMBERS, (0,))):
            for deed in [DEEDS[word][0] for word in DEEDS] + [None, (), ("what",), ["tick"], ("put",)]:
                self.check_error(NoTable, table, deed)

    def test_no_deed(self):
        for table in (TABLE, BARE):
            for deed in STRANGE + (("put", (1, 1)), ("seal", ()), ("tick", 1), ["tick"], ("stand", None), ("stand", TABLE[:9])):
                self.check_error(NoDeed, table, deed)
            for word in DEEDS:
                deed, wrongs = DEEDS[word]
                for at in range(len(wrongs)):
                    for part in wrongs[at]:
                        self.check_error(NoDeed, table, spoilt(deed, at + 1, part))

    def test_a_home_that_keeps_nothing(self):
        for table in (BARE, spoilt(BARE, CLOCK, 7)):
            for word in DEEDS:
                deed = DEEDS[word][0]
                if word in ("install", "stand", "tick", "rise", "collect"):
                    self.assertTrue(is_table(behind(table, deed)))
                else:
                    self.check_error(NoDeed, table, deed)
            for deed in (("mend", (), ()), ("free", "a", 1, 0), ("promise", (0, 0))):
                self.check_error(NoDeed, table, deed)

    def test_all_at_other_tables(self):
        for table in (TABLE, spoilt(TABLE, NEXT, (3,)), spoilt(TABLE, EPOCH, 0)):
            for word in DEEDS:
                self.assertTrue(is_table(behind(table, DEEDS[word][0])))


class TestTold(TableCase):
    def test_head_of(self):
        for name, stamp, row in TABLE[HEADS]:
            self.assertEqual(head_of(TABLE, name), (stamp, row))
        for name in ("c", "aa", "z", "zzzzzzzz", "ca"):
            self.assertEqual(head_of(TABLE, name), ((0, 0), None))
            self.assertEqual(head_of(BARE, name), ((0, 0), None))

    def test_is_closed(self):
        blocks = (((1, 1), "x"), ((2, 2), "y"))
        for heads, wanted in (
                ((), True), ((("a", (1, 1), None),), True), ((("a", (1, 1), ()),), True), ((("a", (1, 1), ((1, 1),)),), True),
                ((("a", (1, 1), ((2, 2), (1, 1), (2, 2))),), True), ((("a", (1, 1), ((1, 2),)),), False),
                ((("a", (1, 1), ((1, 1), (2, 1))),), False), ((("a", (1, 1), ()), ("b", (1, 1), ((3, 3),))), False),
                ((("a", (1, 1), ((3, 3),)), ("b", (1, 1), None)), False)):
            table = spoilt(spoilt(TABLE, HEADS, heads), BLOCKS, blocks)
            self.assertIs(is_closed(table), wanted)
        self.assertIs(is_closed(TABLE), True)
        self.assertIs(is_closed(BARE), True)
        self.assertIs(is_closed(spoilt(TABLE, BLOCKS, ())), False)

    def test_led_blocks(self):
        self.assertEqual(led_blocks(TABLE), (((1, 1), "one"), ((2, 7), "two"), ((4, 2), "four")))
        self.assertEqual(led_blocks(BARE), ())
        self.assertEqual(led_blocks(spoilt(TABLE, BLOCKS, TABLE[BLOCKS][1:])), (((2, 7), "two"), ((4, 2), "four")))
        self.assertEqual(led_blocks(spoilt(TABLE, BLOCKS, ())), ())
        self.assertEqual(led_blocks(spoilt(TABLE, HEADS, ())), ())

    def test_errors(self):
        for table in STRANGE + (BARE[:9], list(TABLE), spoilt(TABLE, EPOCH, -1)):
            for function in (is_closed, led_blocks):
                with self.assertRaises(NoTable):
                    function(table)
            for name in NO_NAMES + ("a",):
                with self.assertRaises(NoTable):
                    head_of(table, name)
        for table in (TABLE, BARE):
            for name in NO_NAMES:
                with self.assertRaises(NoName):
                    head_of(table, name)


class TestThings(TableCase):
    def test_nothing_changes(self):
        for thing in ([1, [2]], {"a": [1]}, ("install", [0], {}), (0, [0, [1]], {"a": {}}) + ((),) * 6, in_lists(0, 30),
                      ("stand", list(TABLE)), ("put", (1, 1), ["a", {}])):
            before = copy.deepcopy(thing)
            for function in (is_table, is_deed):
                self.assertIs(function(thing), False)
            for error, table, deed in ((NoTable, thing, ("tick",)), (NoDeed, TABLE, thing)):
                with self.assertRaises(error):
                    behind(table, deed)
            with self.assertRaises(NoTable):
                is_closed(thing)
            self.assertEqual(thing, before)

    def test_deep_things(self):
        for many in (28, 29, 30):
            for inner in (0, "a", None, []):
                thing = nested(inner, many)
                for at in range(10):
                    self.check_table(spoilt(TABLE, at, thing), False)
                self.check_deed(("stand", thing), False)
                self.check_deed(("put", thing, "a"), False)

    def test_runs(self):
        """Any deeds behind one another lead from tables to tables, and alike each time."""
        dice = random.Random(9)
        for _ in range(60):
            table, other = bare_table(), bare_table()
            for _ in range(25):
                word = dice.choice(sorted(DEEDS))
                if table[EPOCH] < 0 and word not in ("install", "stand", "tick", "rise", "collect"):
                    continue
                table, other = behind(table, DEEDS[word][0]), behind(other, DEEDS[word][0])
                self.assertTrue(is_table(table))
                self.assertEqual(table, other)


if __name__ == "__main__":
    unittest.main()
