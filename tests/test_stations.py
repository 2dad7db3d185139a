"""[14]: the table that a disk tells, whatever was cut off amid writing."""

import copy
import random
import unittest

from homeshold.disks import Disk, kept, lines, noted, opened, standing
from homeshold.errors import HomeError, NoDisk, NoItem
from homeshold.stations import table_of
from homeshold.tables import bare_table, behind
from homeshold.texts import sealed
from samples import BARE, NO_INTEGERS, STRANGE, TABLE, in_lists, nested, spoilt

INSTALL = ("install", 2, (0, 1, 4), (0, 3), (("b", (4, 1), ((1, 1),)),), (((1, 1), "one"), ((1, 9), "idle")))
# A deed of each word, each of which changes the table behind those ahead of it.
DEEDS = (
    ("tick",), INSTALL, ("put", (7, 2), "two ~'"), ("head", "a", (1, 7), ((7, 2), (1, 1))), ("lease", "a", 7, 5),
    ("lease", "b", 7, 6), ("free", "a", 7, 6), ("promise", (3, 2)), ("vote", (3, 2), (0, 5)), ("tick",), ("rise",),
    ("mend", (("a", (1, 1), None), ("c", (2, 2), ((2, 1),))), (((2, 1), "mended"),)), ("collect",), ("seal", (1, 2)),
    ("stand", TABLE), ("head", "b", (9, 9), None), ("install", 9, (5,), (), (), ()),
)
# These a home does that keeps nothing.
OF_BARE = (INSTALL, ("stand", TABLE), ("stand", BARE), ("tick",), ("rise",), ("collect",))
NOT_OF_BARE = tuple([deed for deed in DEEDS if deed[0] not in ("install", "stand", "tick", "rise", "collect")])
NO_DEEDS = (
    0, -7, None, "", "tick", (), ("ticks",), ("tick", 0), (("tick",),), ("install", 2, (), (), (), ()), ("put", (1, 1), ""),
    ("put", (1, 0), "a"), ("head", "A", (1, 1), None), ("stand", BARE[:9]), ("mend", (), ()) + ((),), ("whole",), ("area", 1),
    ("item", ("tick",)), nested(0, 28), nested("tick", 28), ("seal", ()), ("lease", "a", 100, 1), 10 ** 30 - 1,
)


def areas(disk):
    return disk.area(0), disk.area(1)


def disk_with(items):
    disk = Disk()
    opened(disk)
    for item in items:
        noted(disk, item, None)
    return disk


def table_behind(deeds):
    table = bare_table()
    for deed in deeds:
        table = behind(table, deed)
    return table


class StationCase(unittest.TestCase):
    def check_told(self, disk, table):
        """The disk tells this table, and is mended just as opened does it; nothing changes when that is done again."""
        twin = disk.copy()
        opened(twin)
        for _ in range(2):
            found = table_of(disk)
            self.assertEqual(found, table)
            self.assertEqual(repr(found), repr(table))
            self.assertEqual(areas(disk), areas(twin))

    def check_no_item(self, disk, index):
        before = areas(disk)
        for _ in range(2):
            with self.assertRaises(HomeError) as caught:
                table_of(disk)
            self.assertIs(type(caught.exception), NoItem)
            self.assertEqual(caught.exception.index, index)
            self.assertIs(type(caught.exception.index), int)
            self.assertEqual(areas(disk), before)


class TestTableOf(StationCase):
    def test_fresh(self):
        for disk in (Disk(), disk_with(())):
            self.check_told(disk, BARE)
            self.assertEqual(areas(disk), areas(disk_with(())))
            self.assertEqual(lines(disk.area(0)), [("area", 0), ("whole",)])

    def test_nothing_that_stands(self):
        for first, second in (("junk", ""), ("", "junk\n"), (disk_with(DEEDS).area(0)[1:], "a"), ("\n", "\n")):
            disk = Disk()
            disk.append(0, first, None)
            disk.append(1, second, None)
            self.check_told(disk, BARE)
            self.assertEqual(areas(disk), areas(disk_with(())))

    def test_deeds_of_each_word(self):
        self.assertEqual(len({deed[0] for deed in DEEDS}), 13)
        for many in range(len(DEEDS) + 1):
            disk = disk_with(DEEDS[:many])
            before = areas(disk)
            self.check_told(disk, table_behind(DEEDS[:many]))
            # What is whole stays as it is.
            self.assertEqual(areas(disk), before)

    def test_told_by_hand(self):
        disk = disk_with((INSTALL, ("put", (7, 2), "two"), ("tick",), ("head", "a", (1, 7), ((7, 2),))))
        self.check_told(disk, (
            2, (0, 1, 4), (0, 3), 1, (("a", (1, 7), ((7, 2),)), ("b", (4, 1), ((1, 1),))),
            (((1, 1), "one"), ((1, 9), "idle"), ((7, 2), "two")), (), (0, 0), None, None,
        ))

    def test_deeds_of_a_home_that_keeps_nothing(self):
        for deed in OF_BARE:
            self.check_told(disk_with((deed,)), behind(BARE, deed))
            for other in OF_BARE:
                self.check_told(disk_with((deed, other)), behind(behind(BARE, deed), other))

    def test_torn_behind_the_standing_area(self):
        for tail in ("x", "\n", "(0,('item',('tick',)))#1\n", sealed((0, ("item", ("tick",)))) + "\n"):
            disk = disk_with(DEEDS[:5])
            whole = areas(disk)
            disk.append(0, tail, None)
            self.check_told(disk, table_behind(DEEDS[:5]))
            self.assertEqual(areas(disk), whole)

    def test_something_in_the_other_area(self):
        for k, tail in ((1, "junk"), (1, "junk\n"), (1, disk_with(DEEDS[:3]).area(0)[:-1]), (1, disk_with(DEEDS).area(0)[:20])):
            disk = disk_with(DEEDS[:7])
            whole = areas(disk)
            disk.append(k, tail, None)
            self.check_told(disk, table_behind(DEEDS[:7]))
            self.assertEqual(areas(disk), whole)

    def test_of_two_areas_the_newer_one(self):
        disk = disk_with(DEEDS[:7])
        kept(disk, DEEDS[:3], None)
        self.assertNotEqual(disk.area(0), "")
        self.check_told(disk, table_behind(DEEDS[:3]))
        self.assertEqual(disk.area(0), "")
        self.assertEqual(standing(disk), 1)
        kept(disk, DEEDS[:4], None)
        noted(disk, ("tick",), None)
        self.check_told(disk, behind(table_behind(DEEDS[:4]), ("tick",)))
        self.assertEqual(disk.area(1), "")

    def test_entries_that_are_no_items(self):
        disk = disk_with(DEEDS[:2])
        for entry in ("tick", ("tick",), ("item",), ("item", ("tick",), 0), ("whole",), ("area", 7), ("items", ("tick",))):
            text = disk.area(0)
            line = sealed((disk.copy().area_check(0), entry)) + "\n"
            disk.append(0, line, None)
            self.assertEqual(lines(disk.area(0)), lines(text) + [entry])
        self.check_told(disk, table_behind(DEEDS[:2]))

    def test_what_is_told_is_the_callers(self):
        disk = disk_with(DEEDS)
        before = areas(disk)
        table = table_of(disk)
        noted(disk, ("tick",), None)
        self.assertEqual(table, table_behind(DEEDS))
        self.assertEqual(table_of(disk), behind(table, ("tick",)))
        self.assertNotEqual(areas(disk), before)

    def test_alike_disks_tell_alike_tables(self):
        self.assertEqual(table_of(disk_with(DEEDS)), table_of(disk_with(DEEDS)))
        disk = disk_with(DEEDS)
        self.assertEqual(table_of(disk.copy()), table_of(disk))

    def test_many_deeds(self):
        deeds = (INSTALL,) + (("tick",),) * 1500 + (("rise",),)
        disk = disk_with(deeds)
        self.assertEqual(table_of(disk), spoilt(table_behind((INSTALL,)), 3, 1500))


class TestRefused(StationCase):
    def test_no_disk(self):
        wrongs = tuple([thing for thing in NO_INTEGERS + STRANGE if not isinstance(thing, Disk)])
        for thing in wrongs + (None, "", disk_with(DEEDS).area(0), BARE, TABLE, [Disk()], (Disk(),), {0: Disk()}, Disk, 7):
            before = repr(thing)
            for _ in range(2):
                with self.assertRaises(HomeError) as caught:
                    table_of(thing)
                self.assertIs(type(caught.exception), NoDisk)
            self.assertEqual(repr(thing), before)

    def test_no_deed_at_each_place(self):
        for item in NO_DEEDS:
            for at in (0, 1, 2, 5, len(DEEDS)):
                self.check_no_item(disk_with(DEEDS[:at] + (item,) + DEEDS[at:]), at)
        self.check_no_item(disk_with((None,)), 0)

    def test_the_first_of_several(self):
        self.check_no_item(disk_with(DEEDS[:3] + (None, "x") + DEEDS[3:] + (0,)), 3)
        self.check_no_item(disk_with((("put", (1, 1), "a"), None)), 0)
        self.check_no_item(disk_with((("tick",), None, ("put", (1, 1), "a"))), 1)

    def test_deeds_that_a_home_that_keeps_nothing_refuses(self):
        for deed in NOT_OF_BARE:
            self.check_no_item(disk_with((deed,)), 0)
            self.check_no_item(disk_with((deed, INSTALL)), 0)
            self.check_no_item(disk_with((("tick",), ("collect",), ("rise",), deed)), 3)
            self.check_no_item(disk_with(DEEDS + (("stand", BARE), ("tick",), deed)), len(DEEDS) + 2)
            self.check_told(disk_with((INSTALL, deed)), behind(behind(BARE, INSTALL), deed))

    def test_an_error_changes_nothing(self):
        # Not even what opened would mend.
        for tail, other in (("torn", "junk"), ("", "junk\n"), ("x\n", "")):
            disk = disk_with(DEEDS[:4] + (None,))
            disk.append(0, tail, None)
            disk.append(1, other, None)
            self.check_no_item(disk, 4)

    def test_items_that_do_not_stand_are_not_judged(self):
        disk = disk_with((None, 7, "x"))
        kept(disk, DEEDS[:2], None)
        self.check_told(disk, table_behind(DEEDS[:2]))
        disk = disk_with(DEEDS[:2])
        noted(disk, None, 5)
        self.check_told(disk, table_behind(DEEDS[:2]))

    def test_nothing_else_changes(self):
        for thing in ([1, [2]], {"a": [1]}, in_lists(0, 30)):
            before = copy.deepcopy(thing)
            with self.assertRaises(NoDisk):
                table_of(thing)
            self.assertEqual(thing, before)


class TestCut(StationCase):
    def test_each_deed_cut_anywhere(self):
        for many, deed in enumerate(DEEDS):
            elder = table_behind(DEEDS[:many])
            newer = behind(elder, deed)
            size = noted(disk_with(DEEDS[:many]), deed, None)
            for most in range(size + 3):
                disk = disk_with(DEEDS[:many])
                whole = areas(disk)
                self.assertEqual(noted(disk, deed, most), min(most, size))
                self.check_told(disk, newer if most >= size else elder)
                if most < size:
                    self.assertEqual(areas(disk), whole)

    def test_goes_on_behind_a_cut(self):
        size = noted(disk_with(DEEDS[:4]), DEEDS[4], None)
        for most in range(size + 1):
            disk = disk_with(DEEDS[:4])
            noted(disk, DEEDS[4], most)
            table = table_of(disk)
            noted(disk, ("rise",), None)
            self.check_told(disk, behind(table, ("rise",)))

    def test_compacting(self):
        for many in (0, 1, 4, 9, 14, len(DEEDS)):
            table = table_behind(DEEDS[:many])
            disk = disk_with(DEEDS[:many])
            kept(disk, (("stand", table),), None)
            self.assertEqual(standing(disk), 1)
            self.check_told(disk, table)
            self.assertEqual(areas(disk)[0], "")
            self.assertEqual(lines(disk.area(1)), [("area", 1), ("item", ("stand", table)), ("whole",)])
            noted(disk, ("tick",), None)
            self.check_told(disk, behind(table, ("tick",)))

    def test_compacting_cut_anywhere(self):
        for many in (0, 2, 6, 13):
            table = table_behind(DEEDS[:many])
            size = kept(disk_with(DEEDS[:many]), (("stand", table),), None)
            for most in range(size + 2):
                disk = disk_with(DEEDS[:many])
                elder = disk.area(0)
                self.assertEqual(kept(disk, (("stand", table),), most), min(most, size))
                self.check_told(disk, table)
                self.assertEqual(areas(disk)[0] == elder, most < size)
                self.assertEqual(areas(disk)[1] == "", most < size)

    def test_drawn_runs(self):
        for seed in range(60):
            draw = random.Random(seed)
            disk, table = disk_with(()), bare_table()
            for _ in range(draw.randrange(25)):
                deed = draw.choice(OF_BARE if table[0] < 0 else DEEDS)
                if draw.random() < 0.2:
                    most = draw.choice((None, draw.randrange(400)))
                    kept(disk, (("stand", table),), most)
                else:
                    most = draw.choice((None, None, draw.randrange(120)))
                    whole = noted(disk.copy(), deed, None)
                    if noted(disk, deed, most) == whole:
                        table = behind(table, deed)
                if most is not None:
                    self.check_told(disk, table)
            self.check_told(disk, table)


if __name__ == "__main__":
    unittest.main()
