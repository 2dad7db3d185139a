"""[16]: how a home mends itself by another one, and what answer does with the letters of that."""

import itertools
import random
import unittest

from homeshold.answers import answer
from homeshold.errors import HomeError, NoHomeNumber, NoTable
from homeshold.letters import is_letter
from homeshold.mending import begin_mending
from homeshold.tables import behind, head_of, is_closed
from homeshold.values import difference, number_of, values
from samples import BARE, NO_HOMES, STRANGE, TABLE, nested, spoilt

CLOCK, HEADS, BLOCKS, LEASES, NEXT = 3, 4, 5, 6, 9
P = 2 ** 89 - 1
ONE, OTHER = 2, 5
EMPTY = spoilt(spoilt(spoilt(TABLE, HEADS, ()), BLOCKS, ()), LEASES, ())
SEALED = spoilt(TABLE, NEXT, (1, 4))


def places(many):
    return tuple([P - 1 - k for k in range(many)])


def numbers(table):
    return tuple(sorted([number_of(name, stamp) for name, stamp, row in table[HEADS]]))


def product(factors):
    """The polynomial modulo P whose roots are these numbers."""
    found = [1]
    for number in factors:
        higher = [0] + found
        for k, part in enumerate(found):
            higher[k] = (higher[k] - number * part) % P
        found = higher
    return tuple(found)


def named(k):
    """The k-th of many unlike names."""
    return "abcdefghij"[k // 100] + "abcdefghij"[k // 10 % 10] + "abcdefghij"[k % 10]


def table_of(heads, blocks=None):
    """A table of epoch 3 with these heads, of dicts from names, and, if none are told, all blocks to which they lead."""
    if blocks is None:
        ids = set([block_id for name in heads for block_id in heads[name][1] or ()])
        blocks = tuple([(block_id, "p" + str(block_id[1] % 1000)) for block_id in sorted(ids)])
    table = spoilt(EMPTY, HEADS, tuple([(name,) + heads[name] for name in sorted(heads)]))
    return spoilt(table, BLOCKS, blocks)


class MendingCase(unittest.TestCase):
    def check_answer(self, table, word, rest, deeds, *answers):
        letter = (("home", ONE), ("home", OTHER), 0, word, rest)
        self.assertTrue(is_letter(letter), letter)
        wanted = (tuple(deeds), tuple([(("home", OTHER), ("home", ONE), 0, told, parts) for told, parts in answers]))
        before = repr((table, letter))
        for _ in range(2):
            found = answer(ONE, table, letter)
            self.assertEqual(found, wanted)
            self.assertEqual(repr(found), repr(wanted))
        self.assertEqual(repr((table, letter)), before)
        for sent in found[1]:
            self.assertTrue(is_letter(sent), sent)
        for deed in found[0]:
            table = behind(table, deed)
        return table

    def mended(self, table, other, most=20):
        """Home ONE mends itself by home OTHER to the end: its table behind it, and the words that were written."""
        tables = {ONE: table, OTHER: other}
        bag = list(begin_mending(ONE, table, OTHER))
        words = []
        while bag:
            letter = bag.pop(0)
            self.assertTrue(is_letter(letter), letter)
            self.assertLess(len(words), most)
            words.append(letter[3])
            home = letter[0][1]
            deeds, letters = answer(home, tables[home], letter)
            if letter[3] != "heads":
                self.assertEqual(deeds, ())
            for deed in deeds:
                self.assertEqual(deed[0], "mend")
                tables[home] = behind(tables[home], deed)
            bag += letters
        self.assertEqual(tables[OTHER], other)
        return tables[ONE], words


class TestBegin(unittest.TestCase):
    def test_told(self):
        for table in (TABLE, EMPTY, spoilt(TABLE, 0, 0), spoilt(TABLE, 0, 10 ** 11)):
            for home, other in itertools.permutations(range(9), 2):
                wanted = ((("home", other), ("home", home), 0, "sums", (table[0], 2)),)
                self.assertEqual(begin_mending(home, table, other), wanted)
                self.assertTrue(is_letter(wanted[0]))

    def test_nothing(self):
        for table in (BARE, spoilt(BARE, CLOCK, 5), SEALED, spoilt(EMPTY, NEXT, (2,))):
            self.assertEqual(begin_mending(1, table, 2), ())
            self.assertIs(type(begin_mending(1, table, 2)), tuple)

    def test_errors(self):
        def refused(error, *arguments):
            before = repr(arguments)
            with self.assertRaises(HomeError) as caught:
                begin_mending(*arguments)
            self.assertIs(type(caught.exception), error)
            self.assertEqual(repr(arguments), before)

        for home in NO_HOMES:
            for table, other in ((TABLE, 1), (None, 1), (TABLE, home), (BARE, None)):
                refused(NoHomeNumber, home, table, other)
        for table in STRANGE + (BARE[:9], list(TABLE), spoilt(TABLE, CLOCK, True), nested(0, 30)):
            for other in (1, 2, 9, None):
                refused(NoTable, 2, table, other)
        for table in (TABLE, BARE, SEALED):
            for other in NO_HOMES + (2,):
                refused(NoHomeNumber, 2, table, other)


class TestSums(MendingCase):
    def test_told(self):
        for table in (TABLE, EMPTY):
            for many in range(1, 65):
                sums = values(P, numbers(table), places(many))
                self.check_answer(table, "sums", (3, many), (), ("values", (3, many, len(table[HEADS]), sums)))
        self.check_answer(EMPTY, "sums", (3, 2), (), ("values", (3, 2, 0, (1, 1))))

    def test_200_heads(self):
        table = table_of({named(k): ((k + 1, 1 + k % 99), None) for k in range(200)})
        sums = values(P, numbers(table), places(3))
        self.check_answer(table, "sums", (3, 3), (), ("values", (3, 3, 200, sums)))

    def test_names_count_as_numbers(self):
        # As strings ab stands ahead of b, as numbers behind it.
        table = table_of({"ab": ((1, 1), None), "b": ((999999, 99), None)})
        self.assertEqual(numbers(table), (2 * 10 ** 8 + 99999999, 29 * 10 ** 8 + 101))
        self.check_answer(table, "sums", (3, 1), (), ("values", (3, 1, 2, values(P, numbers(table), (P - 1,)))))


class TestValues(MendingCase):
    def told(self, other, many):
        return (3, many, len(other[HEADS]), values(P, numbers(other), places(many)))

    def test_alike(self):
        for table in (TABLE, EMPTY):
            for many in (1, 2, 64):
                self.check_answer(table, "values", self.told(table, many), ())

    def test_what_the_other_has_alone(self):
        other = spoilt(TABLE, HEADS, TABLE[HEADS] + (("z", (7, 7), None),))
        self.check_answer(TABLE, "values", self.told(other, 2), (), ("roots", (3, product([number_of("z", (7, 7))]))))
        newer = spoilt(TABLE, HEADS, spoilt(TABLE[HEADS], 1, ("b", (2, 4), None)))
        self.check_answer(TABLE, "values", self.told(newer, 2), (), ("roots", (3, product([number_of("b", (2, 4))]))))
        self.check_answer(EMPTY, "values", self.told(TABLE, 4), (), ("roots", (3, product(numbers(TABLE)))))

    def test_what_it_has_alone_itself(self):
        fewer = spoilt(TABLE, HEADS, TABLE[HEADS][:3])
        self.check_answer(TABLE, "values", self.told(fewer, 1), ())
        self.check_answer(TABLE, "values", self.told(EMPTY, 4), ())

    def test_too_few_values(self):
        # Four pairs part them.
        for many in (1, 2, 3):
            self.check_answer(EMPTY, "values", self.told(TABLE, many), (), ("sums", (3, 2 * many)))
            self.check_answer(TABLE, "values", self.told(EMPTY, many), (), ("sums", (3, 2 * many)))

    def test_twice_as_many(self):
        other = table_of({named(k): ((1, 1), None) for k in range(70)})
        for many in (1, 2, 16, 31, 32):
            self.check_answer(EMPTY, "values", self.told(other, many), (), ("sums", (3, 2 * many)))
        for many in (33, 34, 63, 64):
            self.check_answer(EMPTY, "values", self.told(other, many), (), ("roots", (3, ())))

    def test_64_pairs(self):
        other = table_of({named(k): ((1, 1), None) for k in range(64)})
        self.check_answer(EMPTY, "values", self.told(other, 64), (), ("roots", (3, product(numbers(other)))))

    def test_forged(self):
        good = self.told(TABLE, 3)[3]
        for sums in ((), good[:2], good + (1,), (0,) + good[1:], good[:2] + (0,), (P,) + good[1:], good[:2] + (P,),
                     (P + 1,) + good[1:], (10 ** 29,) + good[1:], (0, 0, 0)):
            for size in (0, 4, 200, 201):
                self.check_answer(TABLE, "values", (3, 3, size, sums), ())
                self.check_answer(EMPTY, "values", (3, 3, size, sums), ())
        for size in (201, 202, 10 ** 11):
            self.check_answer(TABLE, "values", (3, 3, size, good), ())
        self.check_answer(TABLE, "values", (3, 3, 200, good), (), ("sums", (3, 6)))
        for sums in ((1, 1, 1), (P - 1, P - 1, P - 1), (1, 2, 3)):
            self.assertIsNone(difference(P, numbers(TABLE), 5, places(3), sums, 3))
            self.check_answer(TABLE, "values", (3, 3, 5, sums), (), ("sums", (3, 6)))

    def test_one_forged_value_may_tell_something(self):
        # With one place any told value parts the tables by one pair: the factor is what it tells.
        told = (3, 1, 1, (5,))
        self.check_answer(EMPTY, "values", told, (), ("roots", (3, (6, 1))))
        self.assertEqual(difference(P, (), 1, (P - 1,), (5,), 1), ((6, 1), (1,)))


class TestRoots(MendingCase):
    def test_told(self):
        for many in range(1, 5):
            for heads in itertools.combinations(TABLE[HEADS], many):
                factor = product([number_of(name, stamp) for name, stamp, row in heads])
                ids = [block_id for name, stamp, row in heads for block_id in row or ()]
                blocks = tuple([block for block in TABLE[BLOCKS] if block[0] in ids])
                self.check_answer(TABLE, "roots", (3, factor), (), ("heads", (3, heads, blocks)))

    def test_all(self):
        blocks = (((1, 1), "one"), ((2, 7), "two"), ((4, 2), "four"))
        for factor in ((), (0,), (0, 0, 0), (P,), (P, 0, 2 * P)):
            self.check_answer(TABLE, "roots", (3, factor), (), ("heads", (3, TABLE[HEADS], blocks)))
            self.check_answer(EMPTY, "roots", (3, factor), ())

    def test_none(self):
        elder = product([number_of("b", (1, 3)), number_of("b", (2, 4)), number_of("c", (1, 4))])
        for factor in ((1,), (5,), (P + 1,), (0, 1), elder, (1,) * 65):
            self.check_answer(TABLE, "roots", (3, factor), ())

    def test_any_items(self):
        number = number_of("b", (1, 4))
        head = (3, (("b", (1, 4), None),), ())
        for factor in ((P - number, 1), (2 * P - number, 1), (P - number, P + 1), (2 * (P - number), 2), (P - number, 1, 0, P),
                       (0, P - number, 1), (5 * (P - number), 5, 0)):
            self.check_answer(TABLE, "roots", (3, factor), (), ("heads", head))
        self.check_answer(TABLE, "roots", (3, (number, P - 1)), (), ("heads", head))

    def test_blocks_that_lack(self):
        table = spoilt(TABLE, BLOCKS, TABLE[BLOCKS][1:3])
        self.check_answer(table, "roots", (3, ()), (), ("heads", (3, TABLE[HEADS], (((2, 7), "two"),))))


class TestHeads(MendingCase):
    """TABLE has leases in force at a, and ended ones at b and cab."""

    def check_mended(self, table, heads, blocks, taken, taken_blocks):
        deeds = (("mend", taken, taken_blocks),) if taken else ()
        found = self.check_answer(table, "heads", (3, heads, blocks), deeds)
        for name, stamp, row in taken:
            self.assertEqual(head_of(found, name), (stamp, row))
        self.assertTrue(is_closed(found))
        self.check_answer(found, "heads", (3, heads, blocks), ())

    def test_stamps(self):
        for stamp in ((0, 0), (1, 1), (1, 3), (1, 4)):
            self.check_mended(TABLE, (("b", stamp, ()),), (), (), ())
        for stamp in ((1, 5), (2, 1), (10 ** 5, 99)):
            for row in (None, (), ((1, 1),), ((1, 2), (99, 1), (1, 2))):
                self.check_mended(TABLE, (("b", stamp, row),), (), (("b", stamp, row),), ())
        self.check_mended(TABLE, (("new", (1, 1), None),), (), (("new", (1, 1), None),), ())
        self.check_mended(TABLE, (("new", (0, 0), None),), (), (), ())

    def test_leases(self):
        head = (("a", (3, 1), None),)
        for leases, taken in (((), True), ((("a", 1, 4, 20),), True), ((("a", 1, 4, 21),), False), ((("a", 1, 4, 0),), True),
                              ((("a", 1, 4, 20), ("a", 9, 0, 22)), False), ((("aa", 1, 4, 99), ("b", 1, 4, 99)), True)):
            self.check_mended(spoilt(TABLE, LEASES, leases), head, (), head if taken else (), ())

    def test_blocks(self):
        told = (((1, 1), "OTHER"), ((5, 5), "five"), ((6, 6), "six"), ((7, 7), "seven"))
        heads = (("b", (2, 2), ((5, 5), (2, 7))), ("c", (1, 1), ((5, 5), (8, 8))), ("d", (9, 9), ((7, 7), (1, 1), (7, 7))))
        taken_blocks = (told[0], told[1], told[3])
        self.check_mended(TABLE, heads, told, (heads[0], heads[2]), taken_blocks)
        found = behind(TABLE, ("mend", (heads[0], heads[2]), taken_blocks))
        self.assertEqual(dict(found[BLOCKS])[(1, 1)], "one")

    def test_blocks_that_lack(self):
        for row in (((8, 8),), ((1, 1), (8, 8)), ((5, 5), (8, 8))):
            self.check_mended(TABLE, (("b", (2, 2), row),), (((5, 5), "five"),), (), ())

    def test_none(self):
        self.check_mended(TABLE, (), (), (), ())
        self.check_mended(TABLE, (), (((5, 5), "five"),), (), ())
        self.check_mended(TABLE, (("a", (9, 9), None), ("b", (1, 4), None)), (((5, 5), "five"),), (), ())

    def test_some(self):
        heads = (("a", (9, 9), None), ("aa", (1, 1), ((5, 5),)), ("b", (1, 3), ((5, 6),)), ("cab", (5, 99), None), ("d", (10, 1), None))
        blocks = (((5, 5), "five"), ((5, 6), "six"))
        self.check_mended(TABLE, heads, blocks, (heads[1], heads[4]), blocks[:1])


class TestWhole(MendingCase):
    def test_alike(self):
        for table in (TABLE, EMPTY):
            self.assertEqual(self.mended(table, table), (table, ["sums", "values"]))

    def test_one_head(self):
        newer = behind(behind(TABLE, ("put", (8, 8), "eight")), ("head", "d", (10, 1), ((8, 8), (1, 1))))
        found, words = self.mended(TABLE, newer)
        self.assertEqual(words, ["sums", "values", "roots", "heads"])
        self.assertEqual(head_of(found, "d"), ((10, 1), ((8, 8), (1, 1))))
        self.assertEqual(found, newer)
        # The other way round there is nothing to take.
        self.assertEqual(self.mended(newer, TABLE), (newer, ["sums", "values", "roots", "heads"]))

    def test_what_it_has_alone_stays(self):
        newer = behind(TABLE, ("head", "q", (1, 1), None))
        self.assertEqual(self.mended(newer, TABLE), (newer, ["sums", "values"]))

    def test_few_and_many(self):
        dice = random.Random(31)
        for many in (1, 2, 3, 4, 7, 15, 40, 64, 65, 100, 200):
            common = {named(k): ((1 + k % 7, 1 + k % 99), dice.choice((None, (), ((1, k + 1),)))) for k in range(200)}
            newer = dict(common)
            for name in dice.sample(sorted(common), many):
                newer[name] = ((8, 1 + dice.randrange(99)), dice.choice((None, ((2, dice.randrange(1, 999)),))))
            found, words = self.mended(table_of(common), table_of(newer))
            self.assertEqual(found[HEADS], table_of(newer)[HEADS])
            self.assertTrue(is_closed(found))
            # Each name is a pair on each side.
            rounds = 1
            while 2 ** rounds < 2 * many and rounds < 6:
                rounds += 1
            self.assertEqual(words, ["sums", "values"] * rounds + ["roots", "heads"])

    def test_both_sides(self):
        dice = random.Random(32)
        misled = 0
        for _ in range(60):
            sides = [{}, {}]
            for k in range(dice.randrange(40)):
                heads = [((1 + dice.randrange(5), 1 + dice.randrange(3)), dice.choice((None, ((k + 1, 1),)))) for _ in sides]
                if dice.random() < 0.6:
                    heads[1] = heads[0]
                for side, head in zip(sides, heads):
                    if dice.random() < 0.9:
                        side[named(k)] = head
            first, second = table_of(sides[0]), table_of(sides[1])
            wanted = dict(sides[0])
            for name in sides[1]:
                if name not in wanted or wanted[name][0] < sides[1][name][0]:
                    wanted[name] = sides[1][name]
            found, words = self.mended(first, second)
            if self.is_misled(numbers(first), numbers(second)):
                misled += 1
                self.assertEqual((found, words[-1]), (first, "roots"))
            else:
                self.assertEqual(found[HEADS], table_of(wanted)[HEADS])
                self.assertTrue(is_closed(found))
        self.assertTrue(0 < misled < 20)

    def is_misled(self, own, other):
        """Whether ever as many values are told as other has more numbers, while more than these part them.

        Then there is a pair (f, (1,)) of that degree, whatever is told, and f has the roots of no pair.
        """
        unlike = len(set(own) ^ set(other))
        return len(other) - len(own) in [2 ** k for k in range(1, 7) if 2 ** k < unlike]

    def test_leases_and_blocks(self):
        newer = table_of({"a": ((5, 5), None), "b": ((5, 5), ((7, 7),)), "c": ((5, 5), ((7, 8),)), "d": ((9, 4), ())},
                         (((7, 7), "seven"),))
        found, words = self.mended(TABLE, newer)
        # At a there is a lease in force, and nobody has the block of c.
        self.assertEqual(words, ["sums", "values"] * 3 + ["roots", "heads"])
        self.assertEqual([head[:2] for head in found[HEADS]], [("a", (2, 1)), ("b", (5, 5)), ("cab", (5, 99)), ("d", (9, 4))])
        self.assertTrue(is_closed(found))


class TestOtherHomes(MendingCase):
    RESTS = {
        "sums": (2,), "values": (2, 1, (5, 6)), "roots": ((),), "heads": ((("new", (9, 9), None),), ()),
    }

    def test_other_epochs(self):
        for word in self.RESTS:
            for epoch in (0, 1, 2, 4, 5):
                for table in (TABLE, SEALED, BARE):
                    self.check_answer(table, word, (epoch,) + self.RESTS[word], ())

    def test_sealed(self):
        for word in self.RESTS:
            self.check_answer(SEALED, word, (3,) + self.RESTS[word], ())
            letter = (("home", ONE), ("home", OTHER), 0, word, (3,) + self.RESTS[word])
            self.assertNotEqual(answer(ONE, TABLE, letter), ((), ()))

    def test_talks_are_told_again(self):
        for talk in (0, 1, 77):
            letter = (("home", ONE), ("home", OTHER), talk, "sums", (3, 1))
            deeds, letters = answer(ONE, TABLE, letter)
            self.assertEqual((deeds, letters[0][:4]), ((), (("home", OTHER), ("home", ONE), talk, "values")))


if __name__ == "__main__":
    unittest.main()
