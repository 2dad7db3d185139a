"""[21]: the day of a world, from which it is lived again."""

import copy
import random
import unittest

from homeshold.days import day, relived
from homeshold.disks import lines
from homeshold.errors import HomeError, NoDay, NoText
from homeshold.texts import check, sealed
from homeshold.world import World
from runs import MIXES, done, drawn_event, drawn_members, is_done, seen
from samples import NO_INTEGERS, in_lists, nested

THREE = (0, 1, 2)
NO_TEXTS = (None, 0, 1, True, (), ("a",), [], ["a"], {}, {"a": 1}, HomeError(), nested("a", 30), in_lists("a", 30), "\t", "a\r\n", "\x7f")


def written(entries):
    """The text of the lines of these entries, by the words of the document."""
    text = ""
    for entry in entries:
        text += sealed((check(text), entry)) + "\n"
    return text


def drawn_world(seed, steps):
    draw = random.Random(seed)
    homes = draw.randrange(1, 6)
    world = World(homes, drawn_members(draw, homes))
    for _ in range(steps):
        is_done(world, drawn_event(draw, world, seed % len(MIXES), ("a", "b")))
    return world


def behind(world, many):
    """The world that was made alike, behind so many of the events."""
    return done(World(*world.beginning()), *world.events()[:many])


class DayCase(unittest.TestCase):
    def check_relived(self, text, world, many):
        for _ in range(2):
            found = relived(text)
            self.assertIs(type(found), tuple)
            self.assertEqual(len(found), 2)
            self.assertIs(type(found[0]), World)
            self.assertEqual(seen(found[0]), seen(world))
            self.assertIs(type(found[1]), int)
            self.assertEqual(found[1], many)
        return found[0]

    def check_refused(self, error, thing):
        before = repr(thing)
        for _ in range(2):
            with self.assertRaises(HomeError, msg=before[:200]) as caught:
                relived(thing)
            self.assertIs(type(caught.exception), error)
        self.assertEqual(repr(thing), before)


class TestDay(DayCase):
    def test_fresh(self):
        for homes, members in ((1, (0,)), (9, (0, 8)), (3, THREE)):
            text = day(World(homes, members))
            self.assertEqual(text, written([("world", homes, members)]))
            self.check_relived(text, World(homes, members), 0)

    def test_by_hand(self):
        world = done(World(2, (1,)), ("hand", 7), ("do", 7, ("write", "a", "it's ~")), ("come", 0), ("compact", 1, None))
        first = "(0,('world',2,(1)))"
        self.assertTrue(day(world).startswith(first + "#" + str(check(first)) + "\n"))
        entries = [("world", 2, (1,))] + [("event", event) for event in world.events()]
        self.assertEqual(day(world), written(entries))
        self.assertEqual(lines(day(world)), entries)

    def test_changes_nothing(self):
        world = drawn_world(5, 100)
        before = seen(world)
        text = day(world)
        self.assertEqual(day(world), text)
        self.assertEqual(seen(world), before)

    def test_drawn_worlds(self):
        words = {}
        for seed in range(30):
            world = drawn_world(seed, 500)
            text = day(world)
            self.assertEqual(lines(text), [("world",) + world.beginning()] + [("event", event) for event in world.events()])
            found = self.check_relived(text, world, len(world.events()))
            self.assertEqual(day(found), text)
            # They go on alike, and apart.
            many = found.settle(300)
            self.assertEqual(world.copy().settle(300), many)
            self.assertEqual(day(world), text)
            words.update({event[0]: True for event in world.events()})
        self.assertEqual(len(words), 16)

    def test_operations_with_all_signs(self):
        signs = "".join([chr(code) for code in range(32, 127)])
        world = done(World(1, (0,)), ("hand", 99), ("do", 99, ("write", "zzzzzzzz", signs + "~")))
        world.settle(500)
        self.assertEqual(relived(day(world))[0].table(0), world.table(0))
        self.check_relived(day(world), world, len(world.events()))

    def test_greatest_numbers(self):
        world = done(World(9, tuple(range(9))), ("hand", 1), ("do", 1, ("move", tuple(range(9)))), ("cut", 8, 10 ** 30 - 1),
                     ("compact", 0, 10 ** 30 - 1))
        self.check_relived(day(world), world, 4)


class TestCut(DayCase):
    def test_cut_behind_each_sign(self):
        for seed in (1, 3):
            world = drawn_world(seed, 45)
            text = day(world)
            ends = [k + 1 for k, sign in enumerate(text) if sign == "\n"]
            for many in range(ends[0]):
                self.check_refused(NoDay, text[:many])
            for k, end in enumerate(ends):
                self.check_relived(text[:end], behind(world, k), k)
            worlds = {}
            for many in range(ends[0], len(text) + 1):
                found, events = relived(text[:many])
                self.assertEqual(events, len([end for end in ends if end <= many]) - 1)
                worlds.setdefault(events, seen(found))
                self.assertEqual(seen(found), worlds[events])

    def test_something_behind(self):
        world = drawn_world(4, 60)
        text = day(world)
        for tail in ("x", "\n", "\n\n", "(0,('event',('fall',0)))#1\n", sealed((0, ("event", ("fall", 0)))) + "\n", text):
            self.check_relived(text + tail, world, len(world.events()))


class TestSpoilt(DayCase):
    def setUp(self):
        self.world = drawn_world(8, 60)
        self.rows = day(self.world).splitlines(keepends=True)

    def test_a_sign_exchanged(self):
        draw = random.Random(1)
        for k in range(1, len(self.rows)):
            row = self.rows[k]
            place = draw.randrange(len(row) - 1)
            sign = draw.choice([one for one in "ab0()~# " if one != row[place]])
            worse = self.rows[:k] + [row[:place] + sign + row[place + 1:]] + self.rows[k + 1:]
            self.check_relived("".join(worse), behind(self.world, k - 1), k - 1)
        row = self.rows[0]
        for place in range(len(row)):
            sign = draw.choice([one for one in "ab0()~# " if one != row[place]])
            self.check_refused(NoDay, "".join([row[:place] + sign + row[place + 1:]] + self.rows[1:]))

    def test_lines_left_out_doubled_and_exchanged(self):
        for k in range(1, len(self.rows)):
            self.check_relived("".join(self.rows[:k] + self.rows[k + 1:]), behind(self.world, k - 1), k - 1)
            self.check_relived("".join(self.rows[:k + 1] + self.rows[k:]), behind(self.world, k), k)
            self.check_relived("".join(self.rows[:k] + [self.rows[0]] + self.rows[k:]), behind(self.world, k - 1), k - 1)
        for k in range(1, len(self.rows) - 1):
            worse = self.rows[:k] + [self.rows[k + 1], self.rows[k]] + self.rows[k + 2:]
            self.check_relived("".join(worse), behind(self.world, k - 1), k - 1)
        self.check_refused(NoDay, "".join(self.rows[1:]))
        self.check_refused(NoDay, "".join([self.rows[1], self.rows[0]] + self.rows[2:]))

    def test_an_event_that_cannot_be_done(self):
        """The lines behind it count, but aren't done."""
        made, events = ("world",) + self.world.beginning(), [("event", event) for event in self.world.events()]
        homes = self.world.beginning()[0]
        wrongs = (("event", ("hand", 0)), ("event", ("fall", homes)), ("event", ("come", 10 ** 9)), ("event", ("again", 99)),
                  ("event", ("do", 7, ("read", "A"))), ("event", None), ("event", "fall"), ("event", ()))
        for k in (0, 1, 5, len(events)):
            for wrong in wrongs:
                text = written([made] + events[:k] + [wrong] + events[k:])
                self.assertEqual(len(lines(text)), len(events) + 2)
                self.check_relived(text, behind(self.world, k), k)

    def test_entries_of_another_kind(self):
        made, events = ("world",) + self.world.beginning(), [("event", event) for event in self.world.events()]
        for wrong in (made, "event", ("event",), ("event", ("tick", ("home", 0)), 0), ("tick", ("home", 0)), None, 5, (), ("events", ("fall", 0)),
                      (("event", ("fall", 0)),), ("item", ("fall", 0)), (("event",), ("fall", 0)), ("fall", 0)):
            for k in (0, 3, len(events)):
                self.check_relived(written([made] + events[:k] + [wrong] + events[k:]), behind(self.world, k), k)

    def test_an_event_twice(self):
        made = ("world", 1, (0,))
        text = written([made, ("event", ("hand", 1)), ("event", ("hand", 1)), ("event", ("hand", 2))])
        self.check_relived(text, done(World(1, (0,)), ("hand", 1)), 1)
        text = written([made, ("event", ("tick", ("home", 0))), ("event", ("tick", ("home", 0)))])
        self.check_relived(text, done(World(1, (0,)), ("tick", ("home", 0)), ("tick", ("home", 0))), 2)


class TestRefused(DayCase):
    def test_no_text(self):
        for thing in NO_TEXTS + tuple([thing for thing in NO_INTEGERS if not isinstance(thing, str)]):
            self.check_refused(NoText, thing)
        for sign in ("\t", "\x00", "\xe9", "\x7f", "\r"):
            self.check_refused(NoText, day(World(1, (0,))) + sign)
            self.check_refused(NoText, sign + day(World(1, (0,))))

    def test_no_day(self):
        for text in ("", "\n", "a", "world\n", "x" * 20000, "\n" + day(World(1, (0,))), " " + day(World(1, (0,))), sealed(("world", 1, (0,)))):
            self.check_refused(NoDay, text)

    def test_first_entries_of_another_kind(self):
        for entry in (("event", ("hand", 1)), "world", ("world",), ("world", 1), ("world", 1, (0,), 0), ("worlds", 1, (0,)),
                      (("world",), 1, (0,)), None, 0, (), ("area", 0), ("item", ("tick",)), ("", 1, (0,)), ((0,), 1, "world")):
            self.check_refused(NoDay, written([entry]))
            self.check_refused(NoDay, written([entry, ("world", 1, (0,)), ("event", ("hand", 1))]))

    def test_worlds_that_are_not_let(self):
        for homes, members in ((0, (0,)), (10, (0,)), (-1, (0,)), (None, (0,)), ("1", (0,)), ((1,), (0,)), (1, ()), (1, (1,)), (3, (1, 0)),
                               (3, (0, 0)), (3, (3,)), (3, None), (3, 0), (3, "0"), (9, (9,)), (10 ** 29, (0,))):
            self.check_refused(NoDay, written([("world", homes, members)]))
            self.check_refused(NoDay, written([("world", homes, members), ("event", ("hand", 1))]))

    def test_the_first_line_has_to_count(self):
        good = day(World(3, THREE))
        for text in (good[:-1], good[1:], sealed((1, ("world", 3, THREE))) + "\n", sealed(("world", 3, THREE)) + "\n"):
            self.check_refused(NoDay, text)

    def test_lists_stay_as_they_are(self):
        thing = [day(World(1, (0,))), [1]]
        before = copy.deepcopy(thing)
        self.check_refused(NoText, thing)
        self.assertEqual(thing, before)


if __name__ == "__main__":
    unittest.main()
