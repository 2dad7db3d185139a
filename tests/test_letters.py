"""[10]: letters from hands to homes, from one home to another, and from homes to hands."""

import copy
import itertools
import unittest

from homeshold.letters import is_letter
from samples import (
    NO_AHEADS, NO_BLOCKS, NO_COUNTS, NO_HANDS, NO_HEADS, NO_HOMES, NO_IDS, NO_INTEGERS, NO_MEMBERS, NO_NAMES, NO_PIECES, NO_ROWS,
    NO_STAMPS, NO_VOTES, STRANGE, in_lists, nested, spoilt,
)

HOME, OTHER, HAND = ("home", 3), ("home", 0), ("hand", 7)
HEADS = (("a", (2, 1), ((1, 1), (2, 7))), ("b", (1, 4), None))
BLOCKS = (((1, 1), "one"), ((2, 7), "two"))
MANY = tuple(range(64))
NO_MANY = NO_INTEGERS + (0, -1, 65, 66, 10 ** 11)
NO_SUMS = (
    None, 0, True, "", "1", [], [1], {}, (-1,), (1, -1), (True,), (1, False), (None,), ("1",), ((1,),), (1, [2]), MANY + (1,),
    MANY + MANY, nested(1, 30),
)
NO_FACTORS = tuple([thing for thing in NO_SUMS if thing != MANY + (1,)]) + (MANY + (1, 1),)
NO_NAMES_LOTS = (
    None, 0, True, "", "a", [], ["a"], {}, {"a": 1}, ("A",), ("",), (None,), ("a", "a"), ("b", "a"), ("a", "c", "b"), ("ab", "a"),
    (("a",),), ("a", 1), nested("a", 30),
)
NO_IDS_LOTS = (
    None, 0, True, "", [], [(1, 1)], {}, {(1, 1): 1}, (1, 1), ((1, 0),), ((0, 1),), ((100, 1),), ((1, 1), (1, 1)),
    ((1, 2), (1, 1)), ((2, 1), (1, 9)), ([1, 1],), ((1, True),), (None,), ((1, 1, 1),), nested(1, 29),
)
# For each kind of part: good ones, the first of them for common use, and what is none.
KINDS = {
    "epoch": ((3, 0, 10 ** 12 - 1), NO_COUNTS),
    "name": (("a", "zzzzzzzz"), NO_NAMES),
    "id": (((1, 1), (99, 10 ** 12 - 1)), NO_IDS),
    "piece": (("one", " ", "~" * 8), NO_PIECES),
    "stamp": (((2, 1), (0, 0), (10 ** 12 - 1, 99)), NO_STAMPS),
    "row": ((((1, 1), (2, 7)), None, (), ((1, 1),) * 12), NO_ROWS),
    "members": (((0, 2, 5), (8,), tuple(range(9))), NO_MEMBERS),
    "ahead": (((0, 2, 5), (8,), tuple(range(9)), ()), NO_AHEADS),
    "heads": ((HEADS, ()), NO_HEADS),
    "blocks": ((BLOCKS, ()), NO_BLOCKS),
    "voted": ((((2, 1), (0, 1)), None, ((0, 0), (3,))), NO_VOTES),
    "many": ((2, 1, 64), NO_MANY),
    "size": ((5, 0, 200, 201, 10 ** 12 - 1), NO_COUNTS),
    "sums": (((5, 6), (), MANY, (0,), (10 ** 29,)), NO_SUMS),
    "factor": (((5, 1), (), (0,), (0, 0), MANY + (1,), (10 ** 29, 0)), NO_FACTORS),
    "names": ((("a", "ab", "b"), (), ("z",)), NO_NAMES_LOTS),
    "ids": ((((1, 1), (2, 1)), (), ((9, 9),), tuple([(1, k) for k in range(1, 40)])), NO_IDS_LOTS),
}
TO_HOMES = {
    "ask": ("epoch", "name"), "list": ("epoch",), "get": ("epoch", "id"), "put": ("epoch", "id", "piece"),
    "head": ("epoch", "name", "stamp", "row"), "lease": ("epoch", "name"), "free": ("epoch", "name"),
    "prepare": ("epoch", "stamp"), "accept": ("epoch", "stamp", "members"), "seal": ("epoch", "members"),
    "install": ("epoch", "members", "ahead", "heads", "blocks"),
}
AMONG_HOMES = {
    "sums": ("epoch", "many"), "values": ("epoch", "many", "size", "sums"), "roots": ("epoch", "factor"),
    "heads": ("epoch", "heads", "blocks"),
}
TO_HANDS = {
    "told": ("epoch", "name", "stamp", "row"), "names": ("epoch", "names"), "block": ("epoch", "id", "piece"),
    "none": ("epoch", "id"), "have": ("epoch", "id"), "kept": ("epoch", "name", "stamp"),
    "lacks": ("epoch", "name", "stamp", "ids"), "leased": ("epoch",), "granted": ("epoch", "name", "stamp", "row"),
    "freed": ("epoch", "name"), "promised": ("epoch", "stamp", "voted"), "voted": ("epoch", "stamp"),
    "beaten": ("epoch", "stamp"), "sealed": ("epoch", "members", "heads", "blocks"),
    "stood": ("epoch", "members", "heads", "blocks"), "installed": ("epoch",), "moved": ("epoch", "epoch", "members", "ahead"),
    "behind": ("epoch",),
}
LISTS = ((HOME, HAND, TO_HOMES), (HOME, OTHER, AMONG_HOMES), (HAND, HOME, TO_HANDS))
MACHINES = (HOME, OTHER, HAND)
NO_MACHINES = (
    None, 0, True, "home", (), ("home",), ("home", 3, 0), ["home", 3], {"home": 3}, ("Home", 3), ("hands", 3), ("", 3), (3, "home"),
    (None, 3), (["home"], 3), (("home",), 3), nested("home", 30), nested(3, 29),
) + tuple([("home", thing) for thing in NO_HOMES]) + tuple([("hand", thing) for thing in NO_HANDS])


def good_rest(kinds):
    return tuple([KINDS[kind][0][0] for kind in kinds])


def all_words():
    """Each word with its machines and the kinds of its parts."""
    return [(to, by, word, words[word]) for to, by, words in LISTS for word in words]


class LetterCase(unittest.TestCase):
    def check_letter(self, thing, wanted):
        before = repr(thing)
        for _ in range(2):
            self.assertIs(is_letter(thing), wanted, before[:200])
        self.assertEqual(repr(thing), before)


class TestGood(LetterCase):
    def test_each_word(self):
        self.assertEqual([len(words) for _, _, words in LISTS], [11, 4, 18])
        for to, by, word, kinds in all_words():
            self.check_letter((to, by, 5, word, good_rest(kinds)), True)

    def test_each_good_part(self):
        for to, by, word, kinds in all_words():
            for at, kind in enumerate(kinds):
                for part in KINDS[kind][0]:
                    self.check_letter((to, by, 5, word, spoilt(good_rest(kinds), at, part)), True)

    def test_talks_and_machines(self):
        for talk in (0, 1, 10 ** 12 - 1):
            for to, by, word, kinds in all_words():
                self.check_letter((to, by, talk, word, good_rest(kinds)), True)
        for home in range(9):
            for hand in range(1, 100):
                self.check_letter((("home", home), ("hand", hand), 1, "ask", (0, "a")), True)
                self.check_letter((("hand", hand), ("home", home), 1, "behind", (0,)), True)
            for other in range(9):
                self.check_letter((("home", home), ("home", other), 0, "sums", (0, 2)), home != other)


class TestSpoilt(LetterCase):
    def test_each_part(self):
        for to, by, word, kinds in all_words():
            for at, kind in enumerate(kinds):
                for part in KINDS[kind][1]:
                    self.check_letter((to, by, 5, word, spoilt(good_rest(kinds), at, part)), False)

    def test_parts_of_the_rest(self):
        for to, by, word, kinds in all_words():
            rest = good_rest(kinds)
            for many in range(len(rest)):
                self.check_letter((to, by, 5, word, rest[:many]), False)
            for part in (None, 0, (), "a", rest[-1]):
                self.check_letter((to, by, 5, word, rest + (part,)), False)
            for wrong in (list(rest), rest[0], None, {}, {3: 1}, (rest,), "", [rest]):
                self.check_letter((to, by, 5, word, wrong), False)

    def test_parts_of_the_letter(self):
        for to, by, word, kinds in all_words():
            letter = (to, by, 5, word, good_rest(kinds))
            for many in range(5):
                self.check_letter(letter[:many], False)
            for part in (None, 0, ()):
                self.check_letter(letter + (part,), False)
            self.check_letter(list(letter), False)
            self.check_letter((letter,), False)
            self.check_letter(letter[1:] + letter[:1], False)

    def test_talks(self):
        for to, by, word, kinds in all_words():
            for talk in NO_COUNTS:
                self.check_letter((to, by, talk, word, good_rest(kinds)), False)

    def test_no_machines(self):
        for to, by, word, kinds in all_words():
            for wrong in NO_MACHINES:
                self.check_letter((wrong, by, 5, word, good_rest(kinds)), False)
                self.check_letter((to, wrong, 5, word, good_rest(kinds)), False)

    def test_machines_of_the_other_kind(self):
        for to, by, word, kinds in all_words():
            for other_to, other_by in itertools.product(MACHINES, MACHINES):
                good = (other_to[0], other_by[0]) == (to[0], by[0]) and other_to != other_by
                self.check_letter((other_to, other_by, 5, word, good_rest(kinds)), good)
            for same in MACHINES:
                self.check_letter((same, same, 5, word, good_rest(kinds)), False)

    def test_words(self):
        for to, by, word, kinds in all_words():
            for wrong in ("", "what", word + "s", word.upper(), word + " ", None, 0, True, (), (word,), [word], {word: 1},
                          nested(word, 30)):
                if wrong not in ("heads", "roots", "names"):
                    self.check_letter((to, by, 5, wrong, good_rest(kinds)), False)

    def test_the_parts_of_another_word(self):
        for to, by, words in LISTS:
            for word, other in itertools.product(words, words):
                rest = good_rest(words[other])
                if words[word] == words[other] or len(words[word]) != len(rest):
                    self.check_letter((to, by, 5, word, rest), words[word] == words[other])
        self.check_letter((HOME, HAND, 5, "ask", (3, (1, 1))), False)
        self.check_letter((HOME, HAND, 5, "get", (3, "a")), False)
        self.check_letter((HAND, HOME, 5, "kept", (3, "a", (2, 1), None)), False)
        self.check_letter((HAND, HOME, 5, "told", (3, "a", (2, 1))), False)

    def test_members_that_may_be_none(self):
        self.check_letter((HOME, HAND, 5, "install", (3, (0,), (), (), ())), True)
        self.check_letter((HOME, HAND, 5, "install", (3, (), (0,), (), ())), False)
        self.check_letter((HAND, HOME, 5, "moved", (3, 4, (0,), ())), True)
        self.check_letter((HAND, HOME, 5, "moved", (3, 4, (), (0,))), False)
        for word in ("sealed", "stood"):
            self.check_letter((HAND, HOME, 5, word, (3, (), (), ())), False)
        self.check_letter((HOME, HAND, 5, "seal", (3, ())), False)
        self.check_letter((HOME, HAND, 5, "accept", (3, (1, 1), ())), False)

    def test_limits(self):
        for many in range(-2, 70):
            self.check_letter((HOME, OTHER, 0, "sums", (3, many)), 1 <= many <= 64)
            self.check_letter((HOME, OTHER, 0, "values", (3, many, 0, ())), 1 <= many <= 64)
            if many >= 0:
                self.check_letter((HOME, OTHER, 0, "values", (3, 1, 0, (7,) * many)), many <= 64)
                self.check_letter((HOME, OTHER, 0, "roots", (3, (7,) * many)), many <= 65)

    def test_none(self):
        for thing in STRANGE:
            self.check_letter(thing, False)
            self.check_letter((thing,) * 5, False)

    def test_nothing_changes(self):
        for rest in ([3, "a"], (3, ["a"]), {"a": [1]}, (3, {"a": 1}), in_lists(0, 30), (3, "a", [2, 1], [])):
            for thing in ((HOME, HAND, 5, "ask", rest), (HAND, HOME, 5, "told", rest), [HOME, HAND, 5, "ask", rest]):
                before = copy.deepcopy(thing)
                self.assertIs(is_letter(thing), False)
                self.assertEqual(thing, before)

    def test_deep_things(self):
        for inner in (0, "a", None, (), [], {}):
            thing = nested(inner, 28)
            for at in range(5):
                self.check_letter(spoilt((HOME, HAND, 5, "ask", (3, "a")), at, thing), False)
            for to, by, word, kinds in all_words():
                for at in range(len(kinds)):
                    self.check_letter((to, by, 5, word, spoilt(good_rest(kinds), at, thing)), False)


if __name__ == "__main__":
    unittest.main()
