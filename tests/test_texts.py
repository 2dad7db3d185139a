"""[8]: things packed and unpacked, checks, and sealed texts."""

import copy
import itertools
import unittest

from homeshold.errors import BadText, HomeError, NoText, NoThing
from homeshold.texts import check, packed, sealed, unpacked, unsealed

PRINTED = "".join([chr(code) for code in range(32, 127)])
SIGNS = PRINTED + "\n"
THIRTY = 10 ** 30 - 1


def nested(thing, many):
    for _ in range(many):
        thing = (thing,)
    return thing


def in_lists(thing, many):
    for k in range(many):
        thing = [thing] if k % 2 else {"a": thing}
    return thing


PAIRS = (
    (0, "0"), (1, "1"), (9, "9"), (10, "10"), (99991, "99991"), (-1, "-1"), (-10, "-10"), (-907, "-907"),
    (THIRTY, "9" * 30), (-THIRTY, "-" + "9" * 30), (10 ** 29, "1" + "0" * 29), (-(10 ** 29), "-1" + "0" * 29),
    (None, "."), ("", "''"), ("a", "'a'"), ("0", "'0'"), (".", "'.'"), ("(,)", "'(,)'"), (" ", "' '"),
    ("'", "'~''"), ("~", "'~~'"), ("~'", "'~~~''"), ("'~", "'~'~~'"), ("''", "'~'~''"), ("~~", "'~~~~'"),
    ("it's ~5", "'it~'s ~~5'"), ("#", "'#'"), ("a\\", "'a\\'"), ("%s", "'%s'"), ('"', "'\"'"),
    (PRINTED, "'" + PRINTED.replace("~", "~~").replace("'", "~'") + "'"),
    ((), "()"), ((1,), "(1)"), ((None,), "(.)"), (("",), "('')"), (((),), "(())"), (((), ()), "((),())"),
    ((1, 2), "(1,2)"), ((1, -2, None, "x", ()), "(1,-2,.,'x',())"), (("a,b", "c)"), "('a,b','c)')"),
    ((((1, 1), (2, 3)), ((), "~")), "(((1,1),(2,3)),((),'~~'))"), ((0, 0), "(0,0)"),
    (((1, 1), None), "((1,1),.)"), (tuple(range(12)), "(0,1,2,3,4,5,6,7,8,9,10,11)"),
    (nested((), 29), "(" * 30 + ")" * 30), (nested(0, 30), "(" * 30 + "0" + ")" * 30),
    (nested("a", 30), "(" * 30 + "'a'" + ")" * 30), (nested(None, 20), "(" * 20 + "." + ")" * 20),
    (nested(THIRTY, 30), "(" * 30 + "9" * 30 + ")" * 30), ((nested((), 28), nested(1, 29), 7),
     "(" + "(" * 29 + ")" * 29 + "," + "(" * 29 + "1" + ")" * 29 + ",7)"),
    (((),) * 40, "(" + ",".join(["()"] * 40) + ")"), ("x" * 20000, "'" + "x" * 20000 + "'"),
)

NO_THINGS = (
    True, False, [], [1], [()], {}, {"a": 1}, {1: ()}, {(): None}, "\n", "a\n", "\na", "a\nb", "x" * 300 + "\n",
    10 ** 30, -(10 ** 30), 10 ** 30 + 1, -(10 ** 30) - 1, 10 ** 31, 7 * 10 ** 40, nested((), 30), nested(0, 31),
    nested("a", 31), nested(None, 31), nested((), 33), (nested((), 29), nested((), 30)), HomeError(), BadText(3),
    NoThing(),
)


class TestPacked(unittest.TestCase):
    def test_told(self):
        for thing, text in PAIRS:
            with self.subTest(text[:60]):
                self.assertEqual(packed(thing), text)
                self.assertEqual(packed(thing), text)

    def test_each_sign(self):
        for sign in PRINTED:
            inner = "~" + sign if sign in "'~" else sign
            self.assertEqual(packed(sign), "'" + inner + "'")
            self.assertEqual(packed("ab" + sign + sign), "'ab" + inner + inner + "'")

    def test_digits(self):
        for many in range(1, 31):
            for number in (10 ** (many - 1), 10 ** many - 1):
                self.assertEqual(packed(number), str(number))
                self.assertEqual(packed(-number), "-" + str(number))
                self.assertEqual(len(packed(number)), many)

    def test_depths(self):
        for many in range(0, 31):
            self.assertEqual(packed(nested(5, many)), "(" * many + "5" + ")" * many)
            self.assertEqual(packed((nested(5, many - 1), 1) if many else 5)[:many], "(" * many)
        for many in (31, 32, 40, 60):
            with self.assertRaises(NoThing):
                packed(nested(5, many))
            with self.assertRaises(NoThing):
                packed((1, nested(5, many - 1)))

    def test_no_thing(self):
        for thing in NO_THINGS:
            for function in (packed, sealed):
                with self.subTest(function=function.__name__, thing=repr(thing)[:60]):
                    with self.assertRaises(NoThing):
                        function(thing)

    def test_no_thing_deep_within(self):
        for thing in (True, False, [], [1], {}, {"a": 1}, "a\n", "\n", 10 ** 30, -(10 ** 30), HomeError()):
            for many in (1, 2, 15, 28, 29, 30):
                for function in (packed, sealed):
                    with self.assertRaises(NoThing):
                        function(nested(thing, many))
                    with self.assertRaises(NoThing):
                        function((1, "a", nested((0, thing, 0), many - 1)))

    def test_nothing_changes(self):
        for thing in ([1, [2]], {"a": [1], (1, 2): {"b": 2}}, (1, [2, {"a": [3]}]), in_lists(0, 30), (0, {"a": 1})):
            before = copy.deepcopy(thing)
            for function in (packed, sealed):
                with self.assertRaises(NoThing):
                    function(thing)
                self.assertEqual(thing, before)


class Reader:
    """Tells sign by sign whether a text of a thing can go on, by a state and a number of open tuples."""

    def __init__(self):
        self.state = "begin"
        self.depth = 0
        self.digits = 0

    def ended(self):
        return self.depth == 0 and self.state in ("behind", "nought", "digits")

    def take(self, sign):
        if self.state == "string":
            if sign not in PRINTED:
                return False
            self.state = {"'": "behind", "~": "tilde"}.get(sign, "string")
            return True
        if self.state == "tilde":
            self.state = "string"
            return sign in "'~"
        if self.state == "minus":
            self.state, self.digits = "digits", 1
            return sign in "123456789"
        if self.state == "digits" and sign in "0123456789":
            self.digits += 1
            return self.digits <= 30
        if self.state in ("begin", "first") and not (self.state == "first" and sign == ")"):
            return self.begin(sign)
        return self.go_on(sign)

    def begin(self, sign):
        if sign == "(":
            self.state = "first"
            self.depth += 1
            return self.depth <= 30
        self.digits = 1
        states = {".": "behind", "'": "string", "-": "minus", "0": "nought"}
        self.state = states.get(sign, "digits")
        return sign in states or sign in "123456789"

    def go_on(self, sign):
        if self.depth == 0:
            return False
        if sign == ")":
            self.depth -= 1
            self.state = "behind"
            return True
        self.state = "begin"
        return sign == ","


def bad_place(text):
    """The place that BadText tells, or None for the text of a thing."""
    reader = Reader()
    for place, sign in enumerate(text):
        if not reader.take(sign):
            return place
    return None if reader.ended() else len(text)


class TestUnpacked(unittest.TestCase):
    def check_bad(self, text, place):
        with self.assertRaises(BadText, msg=repr(text)[:80]) as caught:
            unpacked(text)
        self.assertEqual(caught.exception.place, place, repr(text)[:80])
        self.assertIs(type(caught.exception.place), int)

    def check_same(self, found, thing):
        self.assertEqual(found, thing)
        self.assertEqual(repr(found), repr(thing))

    def check_as_read(self, text):
        place = bad_place(text)
        if place is None:
            self.assertEqual(packed(unpacked(text)), text)
        else:
            self.check_bad(text, place)

    def test_told(self):
        for thing, text in PAIRS:
            with self.subTest(text[:60]):
                self.check_same(unpacked(text), thing)
                self.check_same(unpacked(packed(thing)), thing)

    def test_empty(self):
        self.check_bad("", 0)

    def test_no_string(self):
        wrongs = (
            None, 0, 1, -1, True, False, (), ("0",), ("()",), [], ["0"], {}, {"0": "0"}, nested("0", 30),
            in_lists("0", 30), HomeError(), 10 ** 29,
        )
        for thing in wrongs:
            before = repr(thing)
            self.check_bad(thing, -1)
            self.assertEqual(repr(thing), before)

    def test_ends_too_soon_at_each_sign(self):
        for thing, text in PAIRS:
            if len(text) > 1000:
                continue
            for many in range(len(text)):
                # The front of an integer that stands alone is an integer too, unless it is a minus.
                if isinstance(thing, int) and text[:many] not in ("", "-"):
                    self.check_same(unpacked(text[:many]), int(text[:many]))
                else:
                    self.check_bad(text[:many], many)

    def test_a_sign_too_many(self):
        for thing, text in PAIRS:
            for sign in SIGNS:
                if isinstance(thing, int) and text != "0" and sign in "0123456789" and len(text.strip("-")) < 30:
                    self.check_same(unpacked(text + sign), int(text + sign))
                else:
                    self.check_bad(text + sign, len(text))
                    self.check_bad(text + sign + text, len(text))

    def test_needless_noughts(self):
        bad = (
            ("00", 1), ("01", 1), ("007", 1), ("-0", 1), ("-00", 1), ("-01", 1), ("-05", 1), ("(00)", 2), ("(01)", 2),
            ("(-0)", 2), ("(-0,1)", 2), ("(-01)", 2), ("(1,00)", 4), ("(1,-0)", 4), ("((0,01))", 5), ("0-", 1),
            ("0.", 1), ("00000", 1), ("0" * 31, 1), ("-" + "0" * 31, 1), ("0" * 5000, 1), ("(0" + "1" * 40, 2),
        )
        for text, place in bad:
            self.check_bad(text, place)

    def test_minus(self):
        for text, place in (("-", 1), ("--1", 1), ("-a", 1), ("-.", 1), ("-'", 1), ("-(", 1), ("1-", 1), ("1-1", 1),
                            ("(-)", 2), ("(-,1)", 2), ("(1-)", 2), ("- 1", 1), ("+1", 0), ("-\n", 1)):
            self.check_bad(text, place)

    def test_digits(self):
        for number in (10 ** 30, 10 ** 31 + 7, 123456789 * 10 ** 22, 10 ** 60, 10 ** 4400):
            text = "1" + "0" * 4400 if number == 10 ** 4400 else str(number)
            self.check_bad(text, 30)
            self.check_bad("-" + text, 31)
            self.check_bad("(" + text + ")", 31)
            self.check_bad("(5,-" + text, 34)
        for many in range(1, 40):
            text = ("1234567890" * 4)[:many]
            if many <= 30:
                self.check_same(unpacked(text), int(text))
                self.check_same(unpacked("-" + text), -int(text))
                self.check_same(unpacked("(" + text + ")"), (int(text),))
            else:
                self.check_bad(text, 30)
                self.check_bad("-" + text, 31)
        self.check_bad("9" * 31, 30)
        self.check_bad("9" * 30 + ")", 30)
        self.check_bad("9" * 30 + "a", 30)
        self.check_bad("(" + "9" * 30, 31)

    def test_depths(self):
        for many in range(1, 31):
            self.check_same(unpacked("(" * many + ")" * many), nested((), many - 1))
            self.check_bad("(" * many, many)
            self.check_bad("(" * many + ")" * (many - 1), 2 * many - 1)
            self.check_bad("(" * many + ")" * (many + 1), 2 * many)
        for many in (31, 32, 50, 2000):
            self.check_bad("(" * many, 30)
            self.check_bad("(" * many + ")" * many, 30)
            self.check_bad("(0," + "(" * many, 32)
            self.check_bad("((),(" + "(" * many, 33)
        self.check_bad("(" * 30 + "(", 30)
        self.check_bad("(" * 30 + "1,(", 32)
        self.check_same(unpacked("(" * 30 + "1,2" + ")" * 30), nested((1, 2), 29))
        self.check_same(unpacked("((" + "(" * 28 + ")" * 28 + "),((" + "(" * 27 + ")" * 27 + ")))"),
                        (nested((), 28), nested((), 28)))

    def test_tildes(self):
        for sign in SIGNS:
            if sign in "'~":
                self.check_same(unpacked("'~" + sign + "'"), sign)
                self.check_bad("'~" + sign, 3)
            else:
                self.check_bad("'~" + sign + "'", 2)
                self.check_bad("'ab~" + sign + "'", 4)
                self.check_bad("('ab','~~~" + sign + "'", 10)
        for text, place in (("'~", 2), ("'a~", 3), ("'~~", 3), ("'~'", 3), ("'~'~", 4), ("~", 0), ("~'", 0), ("'a'~", 3)):
            self.check_bad(text, place)

    def test_line_feeds(self):
        for text, place in (("\n", 0), ("'\n'", 1), ("'a\n", 2), ("'a\nb'", 2), ("'~\n'", 2), ("'a'\n", 3), ("1\n", 1),
                            ("(\n)", 1), ("(1\n)", 2), ("(1,\n2)", 3), ("()\n", 2), (".\n", 1), ("'~~\n", 3)):
            self.check_bad(text, place)

    def test_no_other_signs(self):
        for sign in ("\t", "\r", "\x00", "\x7f", "\xe9", "\u0661", "\u2026"):
            self.check_bad(sign, 0)
            self.check_bad("1" + sign, 1)
            self.check_bad("-" + sign, 1)
            self.check_bad("(1" + sign, 2)
            self.check_bad("'a" + sign + "'", 2)
            self.check_bad("'~" + sign + "'", 2)
            with self.assertRaises(NoThing):
                packed("a" + sign)

    def test_commas(self):
        for text, place in ((",", 0), ("(,", 1), ("(,)", 1), ("(1,)", 3), ("(1,,2)", 3), ("(,1)", 1), ("1,2", 1),
                            ("(1,2,)", 5), ("((),)", 4), ("(1 ,2)", 2), ("(1, 2)", 3), ("()()", 2), ("(()())", 3),
                            ("(1.)", 2), ("(.1)", 2), ("('a''b')", 4), ("(1'a')", 2), ("(1", 2), ("(1,", 3),
                            ("(1,2", 4), ("(1;2)", 2), ("(1(2))", 2), (")", 0), ("(1))", 3), ("1)", 1), ("(']", 3)):
            self.check_bad(text, place)

    def test_begins(self):
        for sign in SIGNS:
            if sign in "0123456789":
                self.check_same(unpacked(sign), int(sign))
            elif sign == ".":
                self.assertIsNone(unpacked(sign))
            else:
                place = 1 if sign in "-'(" else 0
                self.check_bad(sign, place)
                self.check_bad("(1," + sign, 3 + place)
        for text in (" 1", "None", "True", "[1]", "{}", '"a"', "+1", "_1", "#"):
            self.check_bad(text, 0)
        for text, place in (("1_0", 1), ("1e3", 1), ("1.5", 1), ("0x1", 1), ("1 ", 1), (". ", 1), ("..", 1)):
            self.check_bad(text, place)

    def test_all_short_texts(self):
        for many in range(0, 5):
            for signs in itertools.product("019-.'~(),a\n", repeat=many):
                self.check_as_read("".join(signs))

    def test_longer_texts(self):
        for signs in itertools.product("0-.'(),", repeat=6):
            self.check_as_read("(" + "".join(signs))

    def test_one_sign_off(self):
        for text in ("(1,-20,'a~'b~~',((),.),'',0)", "'~~a~'~''", "-1203", "(((1,1),.),('x',(2,3)))"):
            for place in range(len(text)):
                self.check_as_read(text[:place] + text[place + 1:])
                for sign in SIGNS:
                    self.check_as_read(text[:place] + sign + text[place + 1:])
                    self.check_as_read(text[:place] + sign + text[place:])

    def test_packed_of_what_is_read(self):
        texts = set()
        things = set()
        for many in range(0, 5):
            for signs in itertools.product("01-.'~(),", repeat=many):
                text = "".join(signs)
                if bad_place(text) is None:
                    texts.add(text)
                    things.add(unpacked(text))
                    self.assertEqual(packed(unpacked(text)), text)
        self.assertEqual(len(texts), len(things))
        self.assertGreater(len(texts), 90)


class TestCheck(unittest.TestCase):
    def told(self, text):
        worths = "\n" + PRINTED
        total = 0
        for place in range(len(text)):
            total += worths.index(text[place]) * (place + 1)
        return total % 99991

    def test_told(self):
        for text, number in (("", 0), ("\n", 0), ("\n\n\n", 0), (" ", 1), ("!", 2), ("~", 95), ("  ", 3), (" !", 5),
                             ("! ", 4), ("\n ", 2), (" \n", 1), (" \n ", 4), ("\n~", 190), ("~~", 285), ("0", 17),
                             ("a", 66), ("ab", 66 + 134), ("}", 94), ("'", 8), ("(", 9)):
            self.assertEqual(check(text), number, repr(text))

    def test_each_sign(self):
        for worth, sign in enumerate("\n" + PRINTED):
            self.assertEqual(check(sign), worth)
            self.assertEqual(check("\n\n" + sign), 3 * worth)
            self.assertEqual(check(sign + "\n\n"), worth)

    def test_the_remainder(self):
        # 44 times ~ are worth 94050, 45 times 98325, 46 times 102695.
        self.assertEqual(check("~" * 44), 94050)
        self.assertEqual(check("~" * 45), 98325)
        self.assertEqual(check("~" * 46), 102695 - 99991)
        self.assertEqual(check("\n" * 99989 + " "), 99990)
        self.assertEqual(check("\n" * 99990 + " "), 0)
        self.assertEqual(check("\n" * 99990 + "~"), 0)
        self.assertEqual(check("\n" * 99991 + " "), 1)
        self.assertEqual(check("~" * 20000), 95 * 20000 * 20001 // 2 % 99991)

    def test_longer_texts(self):
        for text in ("x" * 97, PRINTED * 3, (PRINTED + "\n") * 9, "a~ \n" * 500, " " * 20000, "~\n" * 5000):
            self.assertEqual(check(text), self.told(text))
            self.assertIs(type(check(text)), int)

    def test_no_text(self):
        wrongs = (
            None, 0, 1, True, False, (), ("a",), [], ["a"], {}, {"a": 1}, nested("a", 20), nested("a", 30),
            in_lists("a", 30), HomeError(), 10 ** 29,
        )
        for thing in wrongs:
            before = repr(thing)
            with self.assertRaises(NoText):
                check(thing)
            self.assertEqual(repr(thing), before)

    def test_no_other_signs(self):
        for sign in ("\t", "\r", "\x00", "\x7f", "\xe9", "\u2026"):
            for text in (sign, "a" + sign, sign + "\n"):
                with self.assertRaises(NoText):
                    check(text)


SEALED_THINGS = (
    0, -907, THIRTY, None, "", "a#5", "~'#", (), (1, 2, 3), ("item", (("a", (1, 1)), None)), nested((), 29),
    (" " * 96, "~" * 30), ("#", "##", "1#2"), PRINTED,
)


class TestSealed(unittest.TestCase):
    def test_told(self):
        self.assertEqual(sealed(0), "0#17")
        self.assertEqual(sealed(None), ".#15")
        self.assertEqual(sealed(()), "()#29")
        self.assertEqual(sealed(""), "''#24")
        self.assertEqual(sealed("#"), "'#'#" + str(8 + 2 * 4 + 3 * 8))

    def test_from_its_parts(self):
        for thing, text in PAIRS:
            self.assertEqual(sealed(thing), text + "#" + str(check(text)))

    def test_unsealed(self):
        for thing in tuple([pair[0] for pair in PAIRS]) + SEALED_THINGS:
            found = unsealed(sealed(thing))
            self.assertIs(type(found), tuple)
            self.assertEqual(found, (thing,))
            self.assertEqual(repr(found), repr((thing,)))

    def test_a_check_of_nought(self):
        # No sign of a thing's text is worth 0, so a check of 0 comes from the remainder alone.
        for thing in ("x" * 521 + "w", "x" * 1944 + "f"):
            text = packed(thing)
            self.assertEqual(check(text), 0)
            self.assertEqual(sealed(thing), text + "#0")
            self.assertEqual(unsealed(text + "#0"), (thing,))
            for digits in ("", "00", "-0", "99991"):
                self.assertEqual(unsealed(text + "#" + digits), ())

    def test_one_sign_exchanged(self):
        for thing in SEALED_THINGS:
            text = sealed(thing)
            for place in range(len(text)):
                for sign in SIGNS:
                    if sign != text[place]:
                        self.assertEqual(unsealed(text[:place] + sign + text[place + 1:]), (), text)

    def test_the_last_sign_left_out(self):
        for thing in tuple([pair[0] for pair in PAIRS]) + SEALED_THINGS:
            self.assertEqual(unsealed(sealed(thing)[:-1]), ())

    def test_cut_anywhere(self):
        for thing in SEALED_THINGS:
            text = sealed(thing)
            for many in range(len(text)):
                self.assertEqual(unsealed(text[:many]), ())

    def test_two_neighbours_exchanged(self):
        for thing in SEALED_THINGS:
            text = sealed(thing)
            for k in range(len(text) - 1):
                if text[k] != text[k + 1]:
                    self.assertEqual(unsealed(text[:k] + text[k + 1] + text[k] + text[k + 2:]), (), text)

    def test_a_sign_too_many(self):
        for thing in SEALED_THINGS:
            text = sealed(thing)
            for sign in SIGNS:
                self.assertEqual(unsealed(text + sign), ())
                self.assertEqual(unsealed(sign + text), ())

    def test_needless_noughts(self):
        for text in ("0#017", "0#0017", "()#029", "0#+17", "0# 17", "0#17 ", "0#1_7", "0#-17", "0#17\n", "00#17",
                     "-0#17", "0#17.", "0#'17'"):
            self.assertEqual(unsealed(text), (), text)

    def test_another_check(self):
        for thing in SEALED_THINGS:
            for other in SEALED_THINGS:
                if check(packed(thing)) != check(packed(other)):
                    self.assertEqual(unsealed(packed(thing) + "#" + str(check(packed(other)))), ())
            text = packed(thing)
            for number in (check(text) + 1, check(text) - 1, check(text) + 99991, check(text + "#"), ""):
                self.assertEqual(unsealed(text + "#" + str(number)), ())

    def test_marks(self):
        for text in ("", "#", "##", "0", "17", "017", "0#", "#17", "0##17", "0#17#", "#0#17", "0#17#17", "0#1#7",
                     "0#17#" + str(check("0#17")), "'0#17", "0'#17", "0,17", "a#66", "()", "()29"):
            self.assertEqual(unsealed(text), (), text)

    def test_no_string(self):
        wrongs = (
            None, 0, 17, True, False, (), (0,), ("0#17",), ["0#17"], [], {}, {"0#17": 1}, nested("0#17", 20),
            nested("0#17", 30), in_lists("0#17", 30), HomeError(), 10 ** 29,
        )
        for thing in wrongs:
            before = repr(thing)
            self.assertEqual(unsealed(thing), ())
            self.assertIs(type(unsealed(thing)), tuple)
            self.assertEqual(repr(thing), before)

    def test_texts_of_no_thing(self):
        for text in ("00", "-0", "(1,)", "'a", "~", "a", " 0", "0 ", "9" * 31, "(" * 31 + ")" * 31, "'~a'", "0\n", "'\n'"):
            self.assertEqual(unsealed(text + "#" + str(check(text))), (), text)
        self.assertEqual(unsealed("#0"), ())


if __name__ == "__main__":
    unittest.main()
