"""[6]: names, texts, rows, heads, members, and what is done with texts and pieces."""

import copy
import itertools
import unittest

from homeshold.basics import chopped, few, is_head, is_members, is_name, is_row, is_text, joined, majority
from homeshold.errors import HomeError, NoMembers, NoPieces, NoText

FLAGS = (is_name, is_text, is_row, is_head, is_members)
PRINTED = "".join([chr(code) for code in range(32, 127)])
IDS = ((1, 1), (99, 1), (1, 10 ** 12 - 1), (42, 7))


def nested(thing, many):
    for _ in range(many):
        thing = (thing,)
    return thing


def in_lists(thing, many):
    for k in range(many):
        thing = [thing] if k % 2 else {"a": thing}
    return thing


# None of these is a name, a row, a head or members, and none that isn't a string is a text.
STRANGE = (
    0, 1, -1, 10 ** 29, -(10 ** 29), True, False, [], [1], {}, {"a": 1}, {1: [2]}, {(1, 2): (3,)},
    (True,), (False,), (None,), ("a",), ((),), ([],), ({},), (1, "a"), ("a", "b"), HomeError(),
    NoText(), (NoText(),), nested(0, 20), nested(1, 30), nested((), 29), nested("a", 30),
    nested(None, 30), nested([], 29), in_lists(0, 30), in_lists("a", 29), {"a": {"b": [(1, 2)]}},
    [(0, 0), None], [0], ["a"], "A", "a b", "abcdefghi", "a\n", "~" * 20000, "\n" * 20000,
)


class FlagCase(unittest.TestCase):
    def check_flag(self, function, thing, wanted):
        before = repr(thing)
        for _ in range(2):
            self.assertIs(function(thing), wanted, (function.__name__, before[:80]))
        self.assertEqual(repr(thing), before)


class TestNames(FlagCase):
    def test_names(self):
        for thing in ("a", "z", "m", "ab", "zz", "abcdefgh", "zzzzzzzz", "aaaaaaa"):
            self.check_flag(is_name, thing, True)
        for letter in "abcdefghijklmnopqrstuvwxyz":
            self.check_flag(is_name, letter, True)
            self.check_flag(is_name, "a" + letter + "z", True)

    def test_lengths(self):
        for many in range(0, 20):
            self.check_flag(is_name, "q" * many, 1 <= many <= 8)

    def test_no_other_sign_in_any_place(self):
        for sign in PRINTED + "\n":
            wanted = sign in "abcdefghijklmnopqrstuvwxyz"
            for word in (sign, "a" + sign, sign + "a", "ab" + sign + "cd", "abcdefg" + sign, sign + "bcdefgh"):
                self.check_flag(is_name, word, wanted)

    def test_none(self):
        for thing in ("", "A", "aB", "a1", "1", "a ", " a", "a\n", "\n", "abcdefgh\n", "abcdefghi"):
            self.check_flag(is_name, thing, False)
        for thing in STRANGE + (None, ()):
            self.check_flag(is_name, thing, False)


class TestTexts(FlagCase):
    def test_lengths(self):
        for many in (0, 1, 2, 8, 50, 95, 96):
            self.check_flag(is_text, "x" * many, True)
        for many in (97, 98, 104, 200, 20000):
            self.check_flag(is_text, "x" * many, False)

    def test_signs(self):
        for sign in PRINTED:
            self.check_flag(is_text, sign, True)
            self.check_flag(is_text, "a" + sign + "b", True)
            self.check_flag(is_text, sign * 96, True)
        self.check_flag(is_text, PRINTED, True)
        self.check_flag(is_text, PRINTED + "~", True)
        self.check_flag(is_text, PRINTED + "~~", False)

    def test_no_other_signs(self):
        for sign in ("\t", "\r", "\x00", "\x1f", "\x7f", "\xe9", "\u2026"):
            for thing in (sign, "a" + sign, sign + "a"):
                self.check_flag(is_text, thing, False)
                self.check_flag(is_name, thing, False)
                with self.assertRaises(NoText):
                    chopped(thing)
                with self.assertRaises(NoPieces):
                    joined((thing,))

    def test_line_feeds(self):
        for thing in ("\n", "a\n", "\na", "a\nb", "x" * 95 + "\n", "x" * 96 + "\n", "\n" * 96):
            self.check_flag(is_text, thing, False)

    def test_none(self):
        for thing in STRANGE + (None, ()):
            if not isinstance(thing, str):
                self.check_flag(is_text, thing, False)


class TestRows(FlagCase):
    def test_rows(self):
        for thing in (None, (), ((1, 1),), ((99, 1),), ((1, 10 ** 12 - 1),), IDS, IDS * 3):
            self.check_flag(is_row, thing, True)

    def test_like_ids(self):
        for many in range(2, 13):
            self.check_flag(is_row, ((3, 4),) * many, True)
        self.check_flag(is_row, ((3, 4), (2, 1), (3, 4)), True)

    def test_lengths(self):
        for many in range(0, 16):
            self.check_flag(is_row, tuple([(1, k + 1) for k in range(many)]), many <= 12)

    def test_hands(self):
        for hand in range(-2, 103):
            self.check_flag(is_row, ((hand, 1),), 1 <= hand <= 99)
            self.check_flag(is_row, ((1, 1), (hand, 5), (2, 2)), 1 <= hand <= 99)

    def test_numbers(self):
        for number in (-(10 ** 11), -1, 0):
            self.check_flag(is_row, ((1, number),), False)
            self.check_flag(is_row, ((5, 5), (1, number)), False)
        for number in (1, 2, 100, 10 ** 12 - 1):
            self.check_flag(is_row, ((1, number),), True)

    def test_wrong_parts(self):
        for wrong in (True, False, None, "1", [], [1], (), (1,), {}, {1: 1}, nested(1, 20), nested(1, 28)):
            self.check_flag(is_row, ((wrong, 1),), False)
            self.check_flag(is_row, ((1, wrong),), False)
            self.check_flag(is_row, ((1, 1), (1, wrong)), False)
            self.check_flag(is_row, ((1, wrong), (1, 1)), False)

    def test_wrong_ids(self):
        wrongs = ((), (1,), (1, 1, 1), [1, 1], None, 1, True, "11", {1: 1}, ((1, 1),), ((1, 1), (1, 1)))
        for wrong in wrongs:
            self.check_flag(is_row, (wrong,), False)
            self.check_flag(is_row, ((1, 1), wrong), False)
            self.check_flag(is_row, (wrong, (1, 1)), False)

    def test_tuples_only(self):
        for thing in ([], [(1, 1)], {}, {(1, 1): 1}, "", (1, 1), [[1, 1]], ([1, 1],)):
            self.check_flag(is_row, thing, False)

    def test_none(self):
        for thing in STRANGE:
            self.check_flag(is_row, thing, False)


class TestHeads(FlagCase):
    def test_heads(self):
        for stamp in ((0, 0), (1, 1), (1, 99), (10 ** 12 - 1, 42)):
            for row in (None, (), ((1, 1),), ((1, 1),) * 12):
                self.check_flag(is_head, (stamp, row), True)

    def test_first_head(self):
        self.check_flag(is_head, ((0, 0), None), True)

    def test_stamps(self):
        for number in (-1, 0, 1, 2, 10 ** 12 - 1):
            for hand in range(-1, 102):
                wanted = (number, hand) == (0, 0) or number >= 1 and 1 <= hand <= 99
                self.check_flag(is_head, ((number, hand), None), wanted)

    def test_wrong_stamps(self):
        wrongs = (
            (), (1,), (1, 1, 1), (0, 0, 0), [0, 0], [1, 1], (True, 1), (1, True), (False, 0), (0, False),
            (False, False), (None, None), ("1", 1), (1, "1"), ((1,), 1), (1, [1]), ({}, {}), None, 0, 1,
            True, "", "11", {0: 0}, {}, [], nested(1, 29), (nested(1, 28), 1), (1, nested(1, 28)),
        )
        for wrong in wrongs:
            self.check_flag(is_head, (wrong, None), False)
            self.check_flag(is_head, (wrong, ()), False)

    def test_wrong_rows(self):
        wrongs = (
            0, 1, True, False, "", "a", [], [(1, 1)], {}, {(1, 1): 1}, (1, 1), ((1,),), ((1, 1, 1),),
            ((0, 1),), ((100, 1),), ((1, 0),), ((True, 1),), ((1, 1),) * 13, ([1, 1],), ((0, 0), None),
            nested(1, 29),
        )
        for wrong in wrongs:
            self.check_flag(is_head, ((1, 1), wrong), False)
            self.check_flag(is_head, ((0, 0), wrong), False)

    def test_parts(self):
        for thing in ((), ((0, 0),), ((1, 1), None, None), ((1, 1), (), ()), [(0, 0), None], [(1, 1), ()],
                      None, {(0, 0): None}, (None, (0, 0)), (0, 0)):
            self.check_flag(is_head, thing, False)

    def test_none(self):
        for thing in STRANGE:
            self.check_flag(is_head, thing, False)


NO_MEMBERS = (
    (), [0], [0, 1], [], {}, {0: 1}, None, True, False, 0, 1, "", "0", "01", (-1,), (9,), (-1, 0), (8, 9),
    (0, -1), (0, 9), (1, 0), (0, 2, 1), (2, 1, 0), (8, 0), (0, 0), (0, 1, 1), (1, 1, 2), (8, 8),
    (0, 1, 2, 3, 4, 5, 6, 7, 8, 8), (0, 1, 2, 3, 4, 5, 6, 7, 8, 9), (True,), (False,), (0, True),
    (False, 1), (True, 2), (0, 1, True), (None,), (0, None), ("0",), (0, "1"), ((0,),), (0, (1,)), ([0],),
    (0, [1]), ({},), (10 ** 29,), nested(0, 20), nested(0, 30), in_lists(0, 30), HomeError(), (0, NoText()),
)


class TestMembers(FlagCase):
    def test_each_ascending_tuple(self):
        for many in range(1, 10):
            for members in itertools.combinations(range(9), many):
                self.check_flag(is_members, members, True)

    def test_orders(self):
        for members in itertools.product(range(-1, 10), repeat=2):
            wanted = 0 <= members[0] < members[1] <= 8
            self.check_flag(is_members, members, wanted)
        for members in itertools.permutations((1, 4, 5, 8)):
            self.check_flag(is_members, members, members == (1, 4, 5, 8))
        for members in itertools.product((2, 3, 6), repeat=3):
            self.check_flag(is_members, members, members == (2, 3, 6))

    def test_none(self):
        for thing in NO_MEMBERS + STRANGE:
            self.check_flag(is_members, thing, False)

    def test_homes(self):
        for home in range(-3, 13):
            self.check_flag(is_members, (home,), 0 <= home <= 8)


class TestMajorities(unittest.TestCase):
    def test_each_number(self):
        wanted = {1: (1, 0), 2: (2, 0), 3: (2, 1), 4: (3, 1), 5: (3, 2), 6: (4, 2), 7: (4, 3), 8: (5, 3), 9: (5, 4)}
        for many in range(1, 10):
            for members in (tuple(range(many)), tuple(range(9 - many, 9))):
                self.assertEqual((majority(members), few(members)), wanted[many])

    def test_what_they_mean(self):
        for many in range(1, 10):
            members = tuple(range(many))
            self.assertGreater(2 * majority(members), many)
            self.assertLessEqual(2 * (majority(members) - 1), many)
            self.assertEqual(majority(members) + few(members), many)

    def test_integers(self):
        for many in range(1, 10):
            self.assertIs(type(majority(tuple(range(many)))), int)
            self.assertIs(type(few(tuple(range(many)))), int)

    def test_no_members(self):
        for function in (majority, few):
            for thing in NO_MEMBERS + STRANGE:
                with self.subTest(function=function.__name__, thing=repr(thing)[:60]):
                    with self.assertRaises(NoMembers):
                        function(thing)

    def test_nothing_changes(self):
        for function in (majority, few):
            for thing in ([0, [1]], {"a": [1], (1, 2): {"b": 2}}, ([0], {"a": [1]})):
                before = copy.deepcopy(thing)
                with self.assertRaises(NoMembers):
                    function(thing)
                self.assertEqual(thing, before)


NO_TEXTS = (
    "x" * 97, "x" * 98, "x" * 20000, "\n", "a\n", "\na", "abcdefgh\n", "x" * 95 + "\n", None, 0, 1, True, False,
    (), ("a",), ["a"], [], {}, {"a": "b"}, 10 ** 29, nested("a", 20), nested("a", 30), in_lists("a", 30), HomeError(),
)


class TestChopped(unittest.TestCase):
    def test_lengths(self):
        for many in range(0, 97):
            text = "".join([PRINTED[k % 95] for k in range(many)])
            pieces = chopped(text)
            self.assertIs(type(pieces), tuple)
            self.assertEqual(len(pieces), (many + 7) // 8)
            self.assertEqual("".join(pieces), text)
            self.assertEqual([len(piece) for piece in pieces[:-1]], [8] * (len(pieces) - 1) if pieces else [])
            if pieces:
                self.assertEqual(len(pieces[-1]), (many - 1) % 8 + 1)

    def test_told(self):
        self.assertEqual(chopped(""), ())
        self.assertEqual(chopped("a"), ("a",))
        self.assertEqual(chopped("abcdefg"), ("abcdefg",))
        self.assertEqual(chopped("abcdefgh"), ("abcdefgh",))
        self.assertEqual(chopped("abcdefghi"), ("abcdefgh", "i"))
        self.assertEqual(chopped("abcdefghijklmnop"), ("abcdefgh", "ijklmnop"))
        self.assertEqual(chopped("x" * 95), ("x" * 8,) * 11 + ("x" * 7,))
        self.assertEqual(chopped("x" * 96), ("x" * 8,) * 12)
        self.assertEqual(chopped(" ~        ~ "), (" ~      ", "  ~ "))

    def test_joined_again(self):
        for many in range(0, 97):
            for text in ("~" * many, " " * many, "".join([PRINTED[(7 * k) % 95] for k in range(many)])):
                self.assertEqual(joined(chopped(text)), text)

    def test_no_text(self):
        for thing in NO_TEXTS:
            with self.subTest(thing=repr(thing)[:60]):
                with self.assertRaises(NoText):
                    chopped(thing)

    def test_nothing_changes(self):
        for thing in (["a", ["b"]], {"a": ["b"]}, (["a"], {"b": [1]})):
            before = copy.deepcopy(thing)
            with self.assertRaises(NoText):
                chopped(thing)
            self.assertEqual(thing, before)


class TestJoined(unittest.TestCase):
    def test_told(self):
        self.assertEqual(joined(()), "")
        self.assertEqual(joined(("a",)), "a")
        self.assertEqual(joined(("abcdefgh",) * 12), "abcdefgh" * 12)
        self.assertEqual(joined(("abcdefgh", "a", "bc", "~ ", "abcdefgh", " ")), "abcdefgha" + "bc~ abcdefgh ")

    def test_numbers_of_pieces(self):
        for many in range(0, 13):
            self.assertEqual(joined(("q",) * many), "q" * many)
        for many in (13, 14, 24):
            with self.assertRaises(NoPieces):
                joined(("q",) * many)
            with self.assertRaises(NoPieces):
                joined(("abcdefgh",) * many)

    def test_lengths_of_pieces(self):
        for many in range(0, 12):
            for pieces in (("x" * many,), ("a", "x" * many), ("x" * many, "a"), ("abcdefgh", "x" * many, "b")):
                if 1 <= many <= 8:
                    self.assertEqual(joined(pieces), "".join(pieces))
                else:
                    with self.assertRaises(NoPieces):
                        joined(pieces)

    def test_signs_of_pieces(self):
        for sign in PRINTED:
            self.assertEqual(joined((sign, "a" + sign)), sign + "a" + sign)
        for piece in ("\n", "a\n", "\na", "abcdefg\n", "a\nb"):
            for pieces in ((piece,), ("a", piece), (piece, "a")):
                with self.assertRaises(NoPieces):
                    joined(pieces)

    def test_no_pieces(self):
        wrongs = (
            None, 0, 1, True, False, "", "a", "abcdefgh", [], ["a"], ["abcdefgh"], {}, {"a": 1}, (None,), (1,),
            (True,), (("a",),), (["a"],), ({"a": 1},), ("a", 1), ("a", None), (1, "a"), ("a", ("b",)), ("a", ""),
            nested("a", 2), nested("a", 20), nested("a", 30), in_lists("a", 30), HomeError(), (HomeError(),),
        )
        for thing in wrongs:
            with self.subTest(thing=repr(thing)[:60]):
                with self.assertRaises(NoPieces):
                    joined(thing)

    def test_nothing_changes(self):
        for thing in (["a", ["b"]], {"a": ["b"]}, (["a"], {"b": [1]}), ("a", ["b"])):
            before = copy.deepcopy(thing)
            with self.assertRaises(NoPieces):
                joined(thing)
            self.assertEqual(thing, before)


class TestNothingChanges(unittest.TestCase):
    def test_flags(self):
        inner = {"a": [1, {"b": (1, [2])}], (1, 2): {}, 3: [None]}
        for thing in (inner, [inner, [inner]], (inner, [(1, 1)]), ((1, 1), [inner]), ([0], 1), (0, {1: [2]})):
            before = copy.deepcopy(thing)
            for function in FLAGS:
                self.assertIs(function(thing), False)
                self.assertEqual(thing, before)


if __name__ == "__main__":
    unittest.main()
