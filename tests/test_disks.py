"""[7]: disks, their lines, and what is noted and kept on them."""

import copy
import random
import unittest

from homeshold.disks import Disk, kept, lines, noted, opened, rest, standing
from homeshold.errors import HomeError, NoArea, NoItems, NoNumber, NoStand, NoText
from homeshold.texts import check, packed, sealed, unsealed
from samples import NO_INTEGERS, in_lists, nested

PRINTED = "".join([chr(code) for code in range(32, 127)])
NO_AREAS = NO_INTEGERS + (-1, 2, 3, 10 ** 29)
NO_TEXTS = (
    None, 0, 1, True, (), ("a",), [], ["a"], {}, {"a": 1}, Disk(), HomeError(), nested("a", 30), in_lists("a", 30),
)
NO_MOST = tuple([thing for thing in NO_INTEGERS if thing is not None]) + (-1, -2, -(10 ** 29))
NO_ITEMS = (
    True, False, [], [1], {}, {"a": 1}, "\n", "a\n", 10 ** 30, -(10 ** 30), nested(0, 29), nested((), 28), nested("a", 40),
    Disk(), HomeError(), (1, [2]), (True,), (("tick",), {}), nested([], 20), in_lists(0, 30), (nested(0, 28),),
)
ITEMS = (
    0, -7, None, "", "it's ~#", (), ("tick",), ("put", (1, 1), "a piece"), (("whole",), ("area", 3), ("item", 1)),
    nested(0, 28), nested((), 27), PRINTED, 10 ** 30 - 1, ("whole",), ("area", 5), ("item", 1),
)


def written(entries, ahead=""):
    """The text of the lines of these entries, behind this text, by the words of the document."""
    text = ahead
    for entry in entries:
        text += sealed((check(text), entry)) + "\n"
    return text[len(ahead):]


def counted(text):
    """The entries of the lines that count, and their text, read by the words of the document."""
    ahead, entries = "", []
    for part in text.split("\n")[:-1]:
        found = unsealed(part)
        if not found or not isinstance(found[0], tuple) or len(found[0]) != 2 or found[0][0] != check(ahead):
            break
        entries.append(found[0][1])
        ahead += part + "\n"
    return entries, ahead


def disk_of(first, second=""):
    disk = Disk()
    disk.append(0, first, None)
    disk.append(1, second, None)
    return disk


def areas(disk):
    return disk.area(0), disk.area(1)


def area_of(generation, items, behind=()):
    """The text of an area that stands."""
    entries = [("area", generation)] + [("item", item) for item in items] + [("whole",)]
    return written(entries + [("item", item) for item in behind])


FRESH = written([("area", 0), ("whole",)])


class DiskCase(unittest.TestCase):
    def check_refused(self, error, disk, do):
        """Each call raises just this error and leaves the disk as it was."""
        before = areas(disk)
        for _ in range(2):
            with self.assertRaises(HomeError) as caught:
                do()
            self.assertIs(type(caught.exception), error)
        self.assertEqual(areas(disk), before)


class TestAreas(DiskCase):
    def test_fresh(self):
        disk = Disk()
        self.assertEqual(areas(disk), ("", ""))
        self.assertEqual(disk, Disk())

    def test_append(self):
        for k in (0, 1):
            for text in ("", "a", "two\nrows\n", "\n", "\n\n", PRINTED, "x" * 20000, " ~ "):
                disk = Disk()
                self.assertEqual(disk.append(k, text, None), len(text))
                self.assertEqual(disk.area(k), text)
                self.assertEqual(disk.area(1 - k), "")
                self.assertEqual(disk.append(k, text, None), len(text))
                self.assertEqual(disk.area(k), text + text)
                self.assertEqual(disk.area(1 - k), "")

    def test_append_at_most(self):
        text = "a line\nand more~"
        for k in (0, 1):
            for most in list(range(0, len(text) + 3)) + [10 ** 12, 10 ** 29]:
                disk = disk_of("first\n", "second")
                before = areas(disk)
                many = disk.append(k, text, most)
                self.assertIs(type(many), int)
                self.assertEqual(many, min(most, len(text)))
                self.assertEqual(disk.area(k), before[k] + text[:most])
                self.assertEqual(disk.area(1 - k), before[1 - k])

    def test_append_of_nothing(self):
        disk = disk_of("a")
        for most in (None, 0, 1):
            self.assertEqual(disk.append(0, "", most), 0)
        self.assertEqual(areas(disk), ("a", ""))

    def test_clear(self):
        for k in (0, 1):
            disk = disk_of("one\n", "two")
            self.assertIsNone(disk.clear(k))
            self.assertEqual(disk.area(k), "")
            self.assertEqual(disk.area(1 - k), ("two", "one\n")[k])
            disk.clear(k)
            self.assertEqual(disk.area(k), "")
            disk.append(k, "new", None)
            self.assertEqual(disk.area(k), "new")

    def test_shorten(self):
        text = "ab\ncd"
        for k in (0, 1):
            for many in range(0, len(text) + 1):
                disk = disk_of(text, text)
                self.assertIsNone(disk.shorten(k, many))
                self.assertEqual(disk.area(k), text[:many])
                self.assertEqual(disk.area(1 - k), text)
                self.check_refused(NoNumber, disk, lambda: disk.shorten(k, many + 1))
                disk.append(k, "xy", None)
                self.assertEqual(disk.area(k), text[:many] + "xy")

    def test_copies(self):
        disk = disk_of("one", "two")
        twin = disk.copy()
        self.assertIsInstance(twin, Disk)
        self.assertEqual(twin, disk)
        for change in (lambda it: it.append(0, "x", None), lambda it: it.append(1, "x", None), lambda it: it.clear(0),
                       lambda it: it.clear(1), lambda it: it.shorten(0, 1), lambda it: it.shorten(1, 2)):
            disk = disk_of("one", "two")
            twin = disk.copy()
            change(twin)
            self.assertEqual(areas(disk), ("one", "two"))
            self.assertNotEqual(areas(twin), ("one", "two"))
            self.assertFalse(disk == twin)
            other = disk.copy()
            change(disk)
            self.assertEqual(areas(other), ("one", "two"))
            self.assertEqual(disk, twin)

    def test_alike(self):
        self.assertTrue(disk_of("a", "b") == disk_of("a", "b"))
        self.assertFalse(disk_of("a", "b") != disk_of("a", "b"))
        for other in (disk_of("a", "c"), disk_of("c", "b"), disk_of("b", "a"), disk_of("a"), disk_of("", "b"), Disk(),
                      disk_of("a\n", "b")):
            self.assertFalse(disk_of("a", "b") == other)
            self.assertTrue(disk_of("a", "b") != other)
        for thing in NO_INTEGERS + ("a", ["a", "b"], ("a", "b"), 5):
            self.assertIs(disk_of("a", "b") == thing, False)
            self.assertIs(disk_of("a", "b") != thing, True)

    def test_alike_however_it_came_to_be(self):
        disk = disk_of("abc")
        disk.shorten(0, 1)
        disk.append(0, "b", None)
        self.assertEqual(disk, disk_of("ab"))
        disk.clear(0)
        self.assertEqual(disk, Disk())

    def test_no_area(self):
        disk = disk_of("abc", "de")
        for k in NO_AREAS:
            self.check_refused(NoArea, disk, lambda: disk.area(k))
            self.check_refused(NoArea, disk, lambda: disk.clear(k))
            for text, most in (("a", None), (None, None), ("a", -1), ([], "x")):
                self.check_refused(NoArea, disk, lambda: disk.append(k, text, most))
            for many in (0, 1, -1, None, 99):
                self.check_refused(NoArea, disk, lambda: disk.shorten(k, many))

    def test_no_text(self):
        disk = disk_of("abc", "de")
        for text in NO_TEXTS + ("\t", "a\r\n", "\xe9", "\x7f"):
            for most in (None, 0, 1, -1, True, "x"):
                self.check_refused(NoText, disk, lambda: disk.append(0, text, most))
                self.check_refused(NoText, disk, lambda: disk.append(1, text, most))

    def test_no_number(self):
        disk = disk_of("abc", "de")
        for most in NO_MOST:
            self.check_refused(NoNumber, disk, lambda: disk.append(0, "a", most))
            self.check_refused(NoNumber, disk, lambda: disk.append(1, "", most))
        for many in NO_INTEGERS + (-1, -3, 4, 100, 10 ** 29):
            self.check_refused(NoNumber, disk, lambda: disk.shorten(0, many))
            self.check_refused(NoNumber, disk, lambda: disk.shorten(1, many))
        self.check_refused(NoNumber, disk, lambda: disk.shorten(1, 3))
        disk.shorten(0, 3)
        self.assertEqual(areas(disk), ("abc", "de"))


class TestLines(unittest.TestCase):
    def check_lines(self, text, entries, many):
        for _ in range(2):
            found = lines(text)
            self.assertIs(type(found), list)
            self.assertEqual(found, entries, text[:80])
            self.assertEqual(rest(text), many, text[:80])
            self.assertIs(type(rest(text)), int)
        self.assertEqual((entries, text[:many]), counted(text))

    def test_none(self):
        for text in ("", "\n", "\n\n", "a", "a\n", "()\n", "0#17\n", sealed((0, 1)), "\n" + sealed((0, 1)) + "\n"):
            self.check_lines(text, [], 0)

    def test_told(self):
        self.assertEqual(written([7]), "(0,7)#" + str(check("(0,7)")) + "\n")
        first = written([7])
        second = "(" + str(check(first)) + ",'a')"
        self.assertEqual(written([7, "a"]), first + second + "#" + str(check(second)) + "\n")
        self.check_lines(first + second + "#" + str(check(second)) + "\n", [7, "a"], len(written([7, "a"])))

    def test_counted(self):
        for many in range(len(ITEMS) + 1):
            text = written(ITEMS[:many])
            self.check_lines(text, list(ITEMS[:many]), len(text))

    def test_many(self):
        entries = [("item", ("tick", k)) for k in range(2000)]
        text = written(entries[:200])
        self.check_lines(text, entries[:200], len(text))
        disk = Disk()
        opened(disk)
        for entry in entries:
            noted(disk, entry[1], None)
        self.assertEqual(lines(disk.area(0))[2:], entries)

    def test_entries_as_deep_as_can_be(self):
        text = written([nested(0, 29), nested((), 28)])
        self.check_lines(text, [nested(0, 29), nested((), 28)], len(text))

    def test_cut_anywhere(self):
        text = written([("area", 0), ("item", "a"), 5, ("whole",)])
        ends = [k + 1 for k in range(len(text)) if text[k] == "\n"]
        for many in range(len(text) + 1):
            whole = [end for end in ends if end <= many]
            entries = [("area", 0), ("item", "a"), 5, ("whole",)][:len(whole)]
            self.check_lines(text[:many], entries, whole[-1] if whole else 0)

    def test_the_last_line_without_its_line_feed(self):
        for ahead in ([], [1], [("area", 0), ("item", "a")]):
            good = written(ahead)
            line = written([7], good)[:-1]
            for tail in ("", "x", " ", "#", "0", "xy"):
                self.check_lines(good + line + tail, ahead, len(good))

    def test_each_sign_exchanged(self):
        text = written([1, ("item", "b"), 3])
        first = text.index("\n") + 1
        second = text.index("\n", first) + 1
        for place in range(first, second):
            for sign in PRINTED + "\n":
                if sign != text[place]:
                    self.check_lines(text[:place] + sign + text[place + 1:], [1], first)

    def test_what_stands_behind_never_counts(self):
        good = written([1, 2])
        for bad in ("\n", "a\n", "(0,3)\n", "0#17\n", sealed(5) + "\n", sealed((check(good), 3, 4)) + "\n",
                    sealed((check(good),)) + "\n", sealed(()) + "\n", sealed(((check(good), 3),)) + "\n",
                    sealed((0, 3)) + "\n", sealed((check(good) + 1, 3)) + "\n", sealed((check(good) - 1, 3)) + "\n",
                    sealed((None, 3)) + "\n", sealed((str(check(good)), 3)) + "\n", sealed(((check(good),), 3)) + "\n",
                    sealed((check(good[:-1]) + 5, 3)) + "\n", packed((check(good), 3)) + "\n",
                    sealed((check(good), 3)) + " \n", " " + sealed((check(good), 3)) + "\n",
                    sealed((check(good), 3))[:-1] + "\n", sealed((check(good), 3)) + "0\n"):
            self.check_lines(good + bad, [1, 2], len(good))
            self.check_lines(good + bad + written([4], good + bad), [1, 2], len(good))
            self.check_lines(good + bad + written([4], good), [1, 2], len(good))
            self.check_lines(good + bad + written([4]), [1, 2], len(good))

    def test_the_check_of_other_lines(self):
        for other in ("", written([1]), written([2, 1]), written([1, 2, 2]), "a\n"):
            good = written([1, 2])
            self.check_lines(good + sealed((check(other), 3)) + "\n", [1, 2], len(good))

    def test_a_line_twice(self):
        first = written([1])
        self.check_lines(first + first, [1], len(first))
        second = written([2], first)
        self.check_lines(first + second + second, [1, 2], len(first + second))
        self.check_lines(second + first, [], 0)
        self.check_lines(second, [], 0)

    def test_alike_entries(self):
        text = written([1, 1, 1])
        self.check_lines(text, [1, 1, 1], len(text))

    def test_line_feeds_ahead(self):
        # A line feed is worth nothing to a check, but the places behind it are other ones.
        text = "\n" + sealed((0, 1)) + "\n"
        self.check_lines(text, [], 0)
        good = written([1])
        self.check_lines(good + "\n" + written([2], good), [1], len(good))

    def test_no_text(self):
        for text in NO_TEXTS + ("\t", "\x00", "\xe9", written([1]) + "\r"):
            for function in (lines, rest):
                with self.assertRaises(NoText):
                    function(text)


class TestStanding(unittest.TestCase):
    def test_none(self):
        for first in ("", "a", "\n", written([("whole",)]), written([("area", 0)]), written([("whole",), ("area", 0)]),
                      written([("item", 1), ("whole",)]), written([("area", 0), ("item", ("whole",))])):
            self.assertIsNone(standing(disk_of(first)))
            self.assertIsNone(standing(disk_of("", first)))
            self.assertIsNone(standing(disk_of(first, first)))

    def test_one(self):
        for text in (FRESH, area_of(5, ()), area_of(10 ** 29, ("a", "b")), written([("area", 3), ("whole",), ("item", 1)]),
                     written([("area", 3), ("item", 1), ("whole",), ("whole",)]), area_of(2, (1,), (3, 4)),
                     area_of(2, (1,)) + "torn", area_of(0, ()) + "\n\n"):
            for other in ("", "junk", written([("area", 9)]), area_of(99, (1, 2))[:-1], written([("whole",)])):
                self.assertEqual(standing(disk_of(text, other)), 0)
                self.assertEqual(standing(disk_of(other, text)), 1)
                self.assertIs(type(standing(disk_of(text, other))), int)

    def test_whatever_was_done_before(self):
        """An area that stood stands as its text tells, and no longer."""
        draw = random.Random(7)
        texts = (FRESH, area_of(1, ()), area_of(2, (1,)), area_of(9, (), (2,)), "torn", "\n", written([("area", 4)]))
        for _ in range(60):
            disk = spare = Disk()
            for _ in range(25):
                k = draw.randrange(2)
                step = draw.randrange(6)
                if step < 2:
                    disk.append(k, draw.choice(texts), draw.choice((None, None, draw.randrange(60))))
                elif step == 2:
                    disk.clear(k)
                elif step == 3:
                    disk.shorten(k, draw.randrange(len(disk.area(k)) + 1))
                elif step == 4:
                    disk, spare = disk.copy(), disk
                elif standing(disk) is not None:
                    kept(disk, ("x",), draw.choice((None, draw.randrange(80))))
                self.assertEqual(standing(spare), standing(disk_of(*areas(spare))))
                twin = disk_of(*areas(disk))
                self.assertEqual(standing(disk), standing(twin))
                if standing(disk) is not None:
                    self.assertEqual(kept(disk.copy(), (), None), kept(twin, (), None))
                    other = disk.copy()
                    kept(other, (), None)
                    self.assertEqual(areas(other), areas(twin))

    def test_two(self):
        for first in (0, 1, 5, 10 ** 29):
            for second in (0, 1, 5, 10 ** 29):
                disk = disk_of(area_of(first, ("a",)), area_of(second, ("b",)))
                self.assertEqual(standing(disk), 1 if second > first else 0)

    def test_the_first_entry(self):
        for entry in (("area",), ("area", -1), ("area", None), ("area", "0"), ("area", (0,)), ("area", 0, 0), ("are", 0),
                      "area", 0, None, (), ("whole",), ("item", 0), ("item", ("area", 0)), (("area", 0),), ("area", ())):
            for text in (written([entry, ("whole",)]), written([entry, ("area", 0), ("whole",)])):
                self.assertIsNone(standing(disk_of(text)), entry)
                self.assertIsNone(standing(disk_of("", text)), entry)

    def test_flags(self):
        # No line can tell a flag: that of True would have to be written like an entry of its own.
        self.assertIsNone(standing(disk_of("(0,('area',True))#" + str(check("(0,('area',True))")) + "\n" + FRESH)))

    def test_whole(self):
        for entry in (("whole", 1), "whole", ("whole", ()), ("Whole",), (("whole",),), ("item", ("whole",)), ()):
            self.assertIsNone(standing(disk_of(written([("area", 0), entry]))))
        self.assertEqual(standing(disk_of(written([("area", 0), 5, ("area", 7), (), ("whole",)]))), 0)

    def test_whole_has_to_count(self):
        text = written([("area", 1), ("item", 1)])
        self.assertIsNone(standing(disk_of(text + sealed((0, ("whole",))) + "\n")))
        self.assertIsNone(standing(disk_of(text + written([("whole",)], text)[:-1])))
        self.assertIsNone(standing(disk_of(text + "\n" + written([("whole",)], text + "\n"))))

    def test_the_first_area_tells_the_generation(self):
        disk = disk_of(written([("area", 1), ("area", 9), ("whole",)]), area_of(5, ()))
        self.assertEqual(standing(disk), 1)

    def test_nothing_changes(self):
        for disk in (Disk(), disk_of("torn", "x"), disk_of(FRESH + "torn", area_of(3, (1,)) + "torn")):
            before = areas(disk)
            standing(disk)
            self.assertEqual(areas(disk), before)


class TestOpened(unittest.TestCase):
    def check_opened(self, disk, items, wanted):
        """Tells these items, leaves these areas, and does nothing when it is called again."""
        for _ in range(3):
            found = opened(disk)
            self.assertIs(type(found), list)
            self.assertEqual(found, items)
            self.assertEqual(areas(disk), wanted)

    def test_fresh(self):
        self.check_opened(Disk(), [], (FRESH, ""))

    def test_none_stands(self):
        for first in ("", "junk", area_of(4, (1, 2))[:-1], written([("whole",)]), FRESH[:5], written([("item", 5)])):
            for second in ("", "junk\n", area_of(7, (1,))[:-1]):
                self.check_opened(disk_of(first, second), [], (FRESH, ""))

    def test_one_stands(self):
        for items in ((), (1,), ITEMS):
            text = area_of(3, items)
            for torn in ("", "x", "\n", "\n\n", written([("item", 5)], text)[:-1], written([("item", 5)]), "(0,"):
                for other in ("", "junk", area_of(2, (7,)), area_of(9, (7,))[:-1]):
                    self.check_opened(disk_of(text + torn, other), list(items), (text, ""))
                    self.check_opened(disk_of(other, text + torn), list(items), ("", text))

    def test_of_two(self):
        elder, newer = area_of(3, ("elder",)), area_of(4, ("newer",))
        self.check_opened(disk_of(elder, newer), ["newer"], ("", newer))
        self.check_opened(disk_of(newer, elder), ["newer"], (newer, ""))
        alike = area_of(4, ("other",))
        self.check_opened(disk_of(newer, alike), ["newer"], (newer, ""))
        self.check_opened(disk_of(alike, newer), ["other"], (alike, ""))

    def test_items_ahead_of_whole_and_behind(self):
        text = written([("area", 0), ("item", 1), ("whole",), ("item", 2), ("whole",), ("item", 3)])
        self.check_opened(disk_of(text), [1, 2, 3], (text, ""))

    def test_other_entries_are_no_items(self):
        entries = [("area", 0), 5, ("item",), ("item", 1, 2), "item", ("item", 8), ("items", 9), (("item", 1),), ("area", 2),
                   ("whole",), ("item", ("item", 4)), ("whole",), None, ()]
        text = written(entries)
        self.check_opened(disk_of(text), [8, ("item", 4)], (text, ""))

    def test_the_list_is_new(self):
        disk = disk_of(area_of(0, (1, 2)))
        opened(disk).append(3)
        self.assertEqual(opened(disk), [1, 2])


class TestNoted(DiskCase):
    def test_told(self):
        disk = Disk()
        opened(disk)
        text = disk.area(0)
        for item in ITEMS:
            line = written([("item", item)], text)
            self.assertEqual(noted(disk, item, None), len(line))
            text += line
            self.assertEqual(areas(disk), (text, ""))
        self.assertEqual(opened(disk), list(ITEMS))

    def test_behind_the_area_that_stands(self):
        disk = disk_of(area_of(1, ("a",)), area_of(2, ("b",)))
        noted(disk, "c", None)
        self.assertEqual(areas(disk), (area_of(1, ("a",)), area_of(2, ("b",), ("c",))))
        disk = disk_of(area_of(2, ("a",)), area_of(2, ("b",)))
        noted(disk, "c", None)
        self.assertEqual(areas(disk), (area_of(2, ("a",), ("c",)), area_of(2, ("b",))))

    def test_cut_anywhere(self):
        for item in ITEMS:
            for text in (FRESH, area_of(4, ("a", ("b",)), (3,))):
                line = written([("item", item)], text)
                ahead = opened(disk_of(text))
                for k in (0, 1):
                    for most in list(range(len(line) + 3)) + [10 ** 20, None]:
                        disk = disk_of("", text) if k else disk_of(text)
                        many = noted(disk, item, most)
                        self.assertEqual(many, len(line) if most is None else min(most, len(line)))
                        self.assertEqual(disk.area(k), text + line[:many])
                        self.assertEqual(disk.area(1 - k), "")
                        whole = many == len(line)
                        self.assertEqual(opened(disk), ahead + [item] if whole else ahead)
                        self.assertEqual(disk.area(k), text + line if whole else text)

    def test_behind_a_mended_line(self):
        disk = Disk()
        opened(disk)
        for k in range(30):
            noted(disk, ("lost", k), 3 + k)
            self.assertEqual(opened(disk), list(range(k)))
            noted(disk, k, None)
        self.assertEqual(opened(disk), list(range(30)))

    def test_on_a_copy(self):
        disk = Disk()
        opened(disk)
        noted(disk, 1, None)
        twin = disk.copy()
        noted(twin, 2, None)
        self.assertEqual((opened(disk), opened(twin)), ([1], [1, 2]))
        noted(disk, 3, None)
        self.assertEqual((opened(disk), opened(twin)), ([1, 3], [1, 2]))

    def test_behind_what_was_appended_by_hand(self):
        disk = disk_of(FRESH)
        disk.append(0, written([("item", 1)], FRESH), None)
        disk.append(0, "torn", None)
        disk.shorten(0, len(disk.area(0)) - 4)
        noted(disk, 2, None)
        self.assertEqual(opened(disk), [1, 2])
        disk.clear(0)
        self.assertEqual(opened(disk), [])
        noted(disk, 3, None)
        self.assertEqual(opened(disk), [3])

    def test_errors(self):
        for disk in (disk_of(FRESH), Disk(), disk_of("torn", "x")):
            stands = standing(disk) is not None
            for item in NO_ITEMS:
                before = repr(item)
                for most in (None, 0, -1, True, "x"):
                    self.check_refused(NoItems, disk, lambda: noted(disk, item, most))
                self.assertEqual(repr(item), before)
            for most in NO_MOST:
                self.check_refused(NoNumber, disk, lambda: noted(disk, 5, most))
            if not stands:
                for most in (None, 0, 3):
                    self.check_refused(NoStand, disk, lambda: noted(disk, 5, most))

    def test_depths(self):
        for many in range(0, 35):
            for inner, least in ((0, 28), ((), 27)):
                disk = disk_of(FRESH)
                if many <= least:
                    noted(disk, nested(inner, many), None)
                    self.assertEqual(opened(disk), [nested(inner, many)])
                    kept(disk, (0, nested(inner, many)), None)
                    self.assertEqual(opened(disk), [0, nested(inner, many)])
                else:
                    self.check_refused(NoItems, disk, lambda: noted(disk, nested(inner, many), None))
                    self.check_refused(NoItems, disk, lambda: kept(disk, (0, nested(inner, many)), None))


class TestKept(DiskCase):
    def test_told(self):
        for items in ((), (1,), ITEMS, tuple(range(300))):
            for elder in (FRESH, area_of(6, ("a",), ("b",))):
                for k in (0, 1):
                    disk = disk_of("", elder) if k else disk_of(elder)
                    g = lines(elder)[0][1]
                    text = area_of(g + 1, items)
                    self.assertEqual(kept(disk, items, None), len(text))
                    self.assertEqual((disk.area(k), disk.area(1 - k)), (elder, text))
                    self.assertEqual(standing(disk), 1 - k)
                    self.assertEqual(opened(disk), list(items))
                    self.assertEqual((disk.area(k), disk.area(1 - k)), ("", text))

    def test_in_the_place_of_what_is_there(self):
        for junk in ("junk", area_of(2, ("x",)), area_of(9, ("x",))[:-1], written([("area", 3)])):
            disk = disk_of(junk, area_of(5, ("b",)))
            kept(disk, ("c",), None)
            self.assertEqual(areas(disk), (area_of(6, ("c",)), area_of(5, ("b",))))

    def test_generations_rise_by_one(self):
        disk = Disk()
        opened(disk)
        for k in range(1, 12):
            if k % 3:
                noted(disk, "a", None)
            kept(disk, (k, "b"), None)
            self.assertEqual(standing(disk), k % 2)
            self.assertEqual(lines(disk.area(k % 2))[0], ("area", k))
            if k % 2:
                self.assertEqual(opened(disk), [k, "b"])

    def test_cut_anywhere(self):
        for items in ((), ("x",), (("stand", (1, 2)), "y", ())):
            elder = area_of(4, ("a", "b"), ("c",))
            text = area_of(5, items)
            for k in (0, 1):
                for other in ("", "junk", area_of(3, ("z",))):
                    for most in list(range(len(text) + 3)) + [10 ** 20, None]:
                        disk = disk_of(other, elder) if k else disk_of(elder, other)
                        many = kept(disk, items, most)
                        self.assertEqual(many, len(text) if most is None else min(most, len(text)))
                        self.assertEqual((disk.area(k), disk.area(1 - k)), (elder, text[:many]))
                        whole = many == len(text)
                        self.assertEqual(opened(disk), list(items) if whole else ["a", "b", "c"])
                        wanted = ("", text) if whole else (elder, "")
                        self.assertEqual((disk.area(k), disk.area(1 - k)), wanted)

    def test_notes_behind_kept(self):
        disk = Disk()
        opened(disk)
        noted(disk, 1, None)
        kept(disk, (2, 3), None)
        noted(disk, 4, None)
        self.assertEqual(opened(disk), [2, 3, 4])
        kept(disk, (5,), 0)
        self.assertEqual(disk.area(0), "")
        noted(disk, 6, None)
        self.assertEqual(opened(disk), [2, 3, 4, 6])

    def test_errors(self):
        no_tuples = (None, 0, True, "a", "", [], [1], [()], {}, {1: 2}, Disk(), HomeError(), in_lists(0, 30))
        for disk in (disk_of(FRESH, "other"), Disk(), disk_of("torn", "x")):
            stands = standing(disk) is not None
            wrongs = no_tuples + tuple([(item,) for item in NO_ITEMS]) + tuple([(1, item, 2) for item in NO_ITEMS])
            for items in wrongs:
                before = repr(items)
                for most in (None, 0, -1, False):
                    self.check_refused(NoItems, disk, lambda: kept(disk, items, most))
                self.assertEqual(repr(items), before)
            for most in NO_MOST:
                for items in ((), (1, 2)):
                    self.check_refused(NoNumber, disk, lambda: kept(disk, items, most))
            if not stands:
                for most in (None, 0, 3):
                    self.check_refused(NoStand, disk, lambda: kept(disk, (1,), most))
                    self.check_refused(NoStand, disk, lambda: kept(disk, (), most))

    def test_no_argument_changes(self):
        item = ("put", (1, 1), [1, {"a": 2}])
        before = copy.deepcopy(item)
        disk = disk_of(FRESH)
        self.check_refused(NoItems, disk, lambda: noted(disk, item, None))
        self.check_refused(NoItems, disk, lambda: kept(disk, (item,), None))
        self.assertEqual(item, before)


if __name__ == "__main__":
    unittest.main()
