"""[22]: a plain house over a world of its own."""

import copy
import random
import unittest

from homeshold.calls import calls_of
from homeshold.days import day, relived
from homeshold.errors import HomeError, NoHomeNumber, NoMembers, NoName, NoNumber, NoText, Unlet
from homeshold.histories import right_order
from homeshold.store import Store
from homeshold.watch import complaints, meaning
from homeshold.world import World
from runs import seen
from samples import NO_HOMES, NO_INTEGERS, NO_MEMBERS, NO_NAMES, STRANGE, in_lists, nested

THREE = (0, 1, 2)
PRINTED = "".join([chr(code) for code in range(32, 127)])
NO_TEXTS = (
    None, 0, 1, True, (), ("a",), [], ["a"], {}, {"a": 1}, "x" * 97, "x" * 20000, "a\n", "\n", HomeError(), nested("a", 30), in_lists("a", 30),
)


class StoreCase(unittest.TestCase):
    def check_refused(self, error, store, function, *arguments):
        before = (seen(store.world()), repr(arguments))
        with self.assertRaises(HomeError, msg=before[1][:200]) as caught:
            function(*arguments)
        self.assertIs(type(caught.exception), error)
        self.assertEqual((seen(store.world()), repr(arguments)), before)

    def check_world(self, store):
        """Nothing runs, nothing is wrong, and the day of the world leads to the same world."""
        world = store.world()
        self.assertIs(type(world), World)
        self.assertEqual(world.hands(), (1,))
        self.assertIsNone(world.hand(1).running())
        self.assertEqual(complaints(world), ())
        self.assertIsNotNone(right_order(calls_of(world)))
        found, many = relived(day(world))
        self.assertEqual(seen(found), seen(world))
        self.assertEqual(many, len(world.events()))
        return world


class TestMaking(StoreCase):
    def test_each_size(self):
        for homes in range(1, 10):
            for members in {(0,), (homes - 1,), tuple(range(homes)), tuple(range(0, homes, 2))}:
                store = Store(homes, members)
                world = self.check_world(store)
                self.assertEqual(world.beginning(), (homes, members))
                self.assertEqual(world.events(), [("hand", 1)])
                self.assertEqual(store.names(), ())
                self.assertIsNone(store.read("a"))
                self.assertEqual(store.write("a", "x"), (1, 1))

    def test_refused(self):
        store = Store(1, (0,))
        for homes in NO_INTEGERS + (0, -1, 10, 10 ** 29, None):
            for members in ((0,), (), None):
                self.check_refused(NoNumber, store, Store, homes, members)
        for homes in (1, 3, 9):
            strange = tuple([thing for thing in STRANGE if thing != (0,)])
            for members in NO_MEMBERS + strange + ((homes,), (0, homes), tuple(range(homes + 1))):
                self.check_refused(NoMembers, store, Store, homes, members)


class TestFiles(StoreCase):
    def test_write_and_read(self):
        store = Store(3, THREE)
        for number, text in enumerate(("", "a", "8 signs.", "nine sign", PRINTED, "~'" * 48, "x" * 96, " ", "")):
            stamp = store.write("a", text)
            self.assertEqual(stamp, (number + 1, 1))
            self.assertIs(type(stamp), tuple)
            self.assertEqual(store.read("a"), text)
            self.assertIs(type(store.read("a")), str)
            self.assertEqual(meaning(store.world()), {"a": (stamp, text)})
        self.check_world(store)

    def test_names_of_all_lengths(self):
        store = Store(5, (0, 2, 4))
        names = tuple(["z" * many for many in range(1, 9)] + ["read", "world"])
        for name in names:
            self.assertEqual(store.write(name, name), (1, 1))
        self.assertEqual(store.names(), tuple(sorted(names)))
        for name in names:
            self.assertEqual(store.read(name), name)

    def test_remove(self):
        store = Store(3, THREE)
        self.assertEqual(store.remove("a"), (1, 1))
        self.assertIsNone(store.read("a"))
        self.assertEqual(store.write("a", "x"), (2, 1))
        self.assertEqual(store.remove("a"), (3, 1))
        self.assertIsNone(store.read("a"))
        self.assertEqual(store.remove("a"), (4, 1))
        self.assertEqual(store.write("a", ""), (5, 1))
        self.assertEqual(store.read("a"), "")
        self.check_world(store)

    def test_copy_to(self):
        store = Store(3, THREE)
        store.write("a", "some text of a")
        self.assertEqual(store.copy_to("a", "b"), (1, 1))
        self.assertEqual(store.read("b"), "some text of a")
        store.write("a", "new")
        self.assertEqual(store.read("b"), "some text of a")
        self.assertEqual(store.copy_to("a", "b"), (2, 1))
        self.assertEqual(store.read("b"), "new")
        self.assertEqual(store.copy_to("a", "a"), (3, 1))
        self.assertEqual(store.read("a"), "new")
        # What isn't there, there is no copy of.
        self.assertEqual(store.copy_to("c", "b"), (3, 1))
        self.assertIsNone(store.read("b"))
        self.assertIsNone(store.read("c"))
        self.check_world(store)

    def test_names(self):
        store = Store(3, THREE)
        self.assertEqual(store.names(), ())
        for name in ("b", "ab", "a", "c"):
            store.write(name, "" if name == "c" else name)
        self.assertEqual(store.names(), ("a", "ab", "b", "c"))
        self.assertIs(type(store.names()), tuple)
        store.remove("ab")
        self.assertEqual(store.names(), ("a", "b", "c"))
        store.copy_to("ab", "a")
        self.assertEqual(store.names(), ("b", "c"))
        store.copy_to("c", "ab")
        self.assertEqual(store.names(), ("ab", "b", "c"))
        for name in ("ab", "b", "c"):
            store.remove(name)
        self.assertEqual(store.names(), ())
        self.check_world(store)

    def test_names_of_homes_that_fell(self):
        store = Store(3, THREE)
        store.write("a", "x")
        store.write("b", "y")
        store.fall(2)
        store.remove("a")
        store.fall(0)
        self.assertEqual(store.names(), ("b",))

    def test_refused(self):
        store = Store(3, THREE)
        store.write("a", "x")
        for name in NO_NAMES + tuple([thing for thing in STRANGE if thing != "a"]):
            for function in (store.remove, store.read):
                self.check_refused(NoName, store, function, name)
            # Of two wrong arguments the first one tells.
            for text in ("x", None, "x" * 97):
                self.check_refused(NoName, store, store.write, name, text)
            for other in ("a", "A", None):
                self.check_refused(NoName, store, store.copy_to, name, other)
            self.check_refused(NoName, store, store.copy_to, "a", name)
        for text in NO_TEXTS:
            self.check_refused(NoText, store, store.write, "a", text)
            self.check_refused(NoText, store, store.write, "new", text)
        self.assertEqual(store.read("a"), "x")
        self.assertEqual(store.names(), ("a",))

    def test_nothing_that_is_handed_in_changes(self):
        store = Store(3, THREE)
        thing = [1, {"a": [2]}]
        before = copy.deepcopy(thing)
        for function in (store.read, store.remove, store.move, store.fall, store.rise, store.lose):
            with self.assertRaises(HomeError):
                function(thing)
        self.assertEqual(thing, before)


class TestMoves(StoreCase):
    def test_move(self):
        store = Store(6, THREE)
        store.write("a", "x")
        place = (0, THREE)
        for members in ((3, 4, 5), (3, 4, 5), (0,), tuple(range(6)), (5,), (1, 2)):
            found = store.move(members)
            self.assertEqual(found, (place[0] + 1, members, place[1]))
            self.assertIs(type(found), tuple)
            place = found
            world = self.check_world(store)
            self.assertEqual(world.ended(), found)
            self.assertEqual(world.hand(1).at_place(), found)
            self.assertEqual(store.read("a"), "x")
        store.write("a", "y")
        self.assertEqual(store.names(), ("a",))

    def test_refused(self):
        store = Store(4, THREE)
        for members in NO_MEMBERS + tuple([thing for thing in STRANGE if thing != (0,)]):
            self.check_refused(NoMembers, store, store.move, members)
        for members in ((4,), (0, 4), (0, 1, 2, 3, 8), tuple(range(9))):
            self.check_refused(Unlet, store, store.move, members)
        self.assertEqual(store.move((3,)), (1, (3,), THREE))

    def test_homes_that_are_lost(self):
        store = Store(5, THREE)
        store.lose(3)
        self.check_refused(Unlet, store, store.move, (3,))
        self.check_refused(Unlet, store, store.move, (0, 3))
        self.assertEqual(store.move((0, 3, 4)), (1, (0, 3, 4), THREE))
        store.lose(1)
        self.check_refused(Unlet, store, store.lose, 0)
        self.check_refused(Unlet, store, store.lose, 4)
        self.check_refused(Unlet, store, store.move, (1, 3, 4))
        self.assertEqual(store.move((0, 2, 4)), (2, (0, 2, 4), (0, 3, 4)))
        store.write("a", "x")
        store.lose(2)
        self.check_refused(Unlet, store, store.lose, 0)
        self.assertEqual(store.read("a"), "x")
        self.check_world(store)


class TestHomes(StoreCase):
    def test_fall_and_rise(self):
        store = Store(3, (0, 1))
        self.assertIsNone(store.fall(1))
        self.assertEqual(store.world().homes(), ["up", "down", "up"])
        self.check_refused(Unlet, store, store.fall, 1)
        self.assertIsNone(store.rise(1))
        self.assertEqual(store.world().homes(), ["up", "up", "up"])
        for i in range(3):
            self.check_refused(Unlet, store, store.rise, i)
            store.fall(i)
        self.assertEqual(store.world().homes(), ["down"] * 3)
        self.assertEqual(store.write("a", "x"), (1, 1))
        # Settling lets them rise.
        self.assertEqual(store.world().homes(), ["up"] * 3)
        self.check_world(store)

    def test_lose(self):
        for homes in range(1, 9):
            members = tuple(range(homes))
            store = Store(homes + 1, members)
            store.write("a", "x")
            for i in range((homes - 1) // 2):
                self.assertIsNone(store.lose(i))
                self.check_refused(Unlet, store, store.lose, i)
                self.check_refused(Unlet, store, store.fall, i)
                self.check_refused(Unlet, store, store.rise, i)
                self.assertEqual(store.read("a"), "x")
            for i in range(homes):
                self.check_refused(Unlet, store, store.lose, i)
            store.lose(homes)
            store.write("a", "y")
            self.assertEqual(store.read("a"), "y")
            self.check_world(store)

    def test_lose_one_who_is_down(self):
        store = Store(3, THREE)
        store.fall(1)
        store.lose(1)
        self.assertEqual(store.world().homes(), ["up", "gone", "up"])
        self.check_refused(Unlet, store, store.rise, 1)

    def test_no_home_number(self):
        store = Store(3, THREE)
        store.fall(0)
        for i in NO_HOMES + STRANGE + (3, 4, 8):
            if i not in (0, 1, 2) or isinstance(i, bool):
                for function in (store.fall, store.rise, store.lose):
                    self.check_refused(NoHomeNumber, store, function, i)

    def test_each_event_and_no_more(self):
        store = Store(3, THREE)
        store.fall(0)
        store.rise(0)
        store.lose(0)
        self.assertEqual(store.world().events(), [("hand", 1), ("fall", 0), ("rise", 0), ("gone", 0)])


class TestWorld(StoreCase):
    def test_a_copy(self):
        store = Store(3, THREE)
        store.write("a", "x")
        world = store.world()
        before = seen(world)
        world.event(("hand", 2))
        world.event(("fall", 0))
        world.settle(10)
        self.assertEqual(seen(store.world()), before)
        store.write("a", "y")
        self.assertNotEqual(seen(store.world()), before)
        self.assertEqual(world.homes(), ["down", "up", "up"])

    def test_what_is_done(self):
        """Each call does its operation and settles the world, event by event."""
        store, world = Store(4, THREE), World(4, THREE)
        world.event(("hand", 1))
        steps = (
            (store.write, ("a", "some text"), [("write", "a", "some text")]), (store.read, ("a",), [("read", "a")]),
            (store.fall, (0,), None), (store.copy_to, ("a", "b"), [("copy", "a", "b")]), (store.write, ("c", ""), [("write", "c", "")]),
            (store.remove, ("a",), [("remove", "a")]),
            (store.names, (), [("names",), ("read", "b"), ("read", "c")]), (store.move, ((1, 2, 3),), [("move", (1, 2, 3))]),
            (store.fall, (2,), None), (store.rise, (2,), None), (store.lose, (3,), None), (store.read, ("b",), [("read", "b")]),
        )
        for function, arguments, ops in steps:
            function(*arguments)
            if ops is None:
                world.event(({"lose": "gone"}.get(function.__name__, function.__name__),) + arguments)
                world.settle(20000)
            for op in ops or ():
                world.event(("do", 1, op))
                world.settle(20000)
                self.assertEqual(world.hand(1).running(), None)
            self.assertEqual(seen(store.world()), seen(world))
        self.check_world(store)

    def test_drawn_stores(self):
        for seed in range(20):
            draw = random.Random(seed)
            homes = draw.randrange(1, 7)
            members = tuple(sorted(draw.sample(range(homes), draw.randrange(1, homes + 1))))
            store, texts, stamps = Store(homes, members), {}, {}
            for _ in range(60):
                self.step(draw, store, homes, texts, stamps)
            for name in "abc":
                self.assertEqual(store.read(name), texts.get(name))
            self.check_world(store)

    def step(self, draw, store, homes, texts, stamps):
        """One drawn call of a store, beside a dict of texts."""
        name, other, kind = draw.choice("abc"), draw.choice("abc"), draw.randrange(8)
        if kind < 2:
            text = "".join(draw.choices("xy ~", k=draw.randrange(30)))
            stamp = store.write(name, text)
            texts[name] = text
        elif kind == 2:
            stamp = store.remove(name)
            texts.pop(name, None)
        elif kind == 3:
            text = texts.get(name)
            stamp, name = store.copy_to(name, other), other
            texts.pop(name, None)
            texts.update({name: text} if text is not None else {})
        else:
            self.other_step(draw, store, homes, texts, kind)
            return
        self.assertGreater(stamp, stamps.get(name, (0, 0)))
        stamps[name] = stamp

    def other_step(self, draw, store, homes, texts, kind):
        if kind == 4:
            self.assertEqual(store.names(), tuple(sorted(texts)))
        elif kind == 5:
            name = draw.choice("abc")
            self.assertEqual(store.read(name), texts.get(name))
        else:
            i = draw.randrange(homes)
            members = tuple(sorted(draw.sample(range(homes), draw.randrange(1, homes + 1))))
            try:
                if kind == 6:
                    self.assertEqual(store.move(members)[1], members)
                else:
                    draw.choice((store.fall, store.rise, store.lose))(i)
            except Unlet:
                pass


if __name__ == "__main__":
    unittest.main()
