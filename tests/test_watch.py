"""[18] and [20]: what the names of a world mean, what is sure, which homes lack it, and what is wrong."""

import itertools
import random
import unittest

from homeshold.errors import HomeError, NoName
from homeshold.tables import head_of, is_closed, is_table
from homeshold.watch import complaints, lacking_homes, meaning, sure
from homeshold.world import World
from runs import MIXES, done, drawn_event, drawn_members, emptied, ended_op, index_of, is_done, seen, world_of
from samples import BARE, NO_NAMES, STRANGE, spoilt

EPOCH, MEMBERS, AHEAD, CLOCK, HEADS, BLOCKS, LEASES, PROMISE, VOTED, NEXT = range(10)
THREE = (0, 1, 2)
TEXT = "words of a file"


class Told:
    """A world of which the tables, the states, the place that is ended last and the history are told, not lived."""

    def __init__(self, tables, place, states=None, history=()):
        assert all([is_table(table) for table in tables])
        self._tables, self._place, self._history = list(tables), place, list(history)
        self._states = list(states or ["up"] * len(tables))

    def table(self, i):
        return self._tables[i]

    def ended(self):
        return self._place

    def homes(self):
        return list(self._states)

    def history(self):
        return list(self._history)

    def moments(self):
        return list(range(len(self._history)))

    def beginning(self):
        return (len(self._tables), self._place[1])

    def hands(self):
        return ()

    def bag(self):
        return []

    def events(self):
        return []


def table(epoch=0, members=THREE, ahead=(), heads=(), blocks=(), newer=None):
    """A table of an epoch with the heads of a tuple of names, stamps and rows."""
    return (epoch, members, ahead, 0, tuple(sorted(heads)), tuple(sorted(blocks)), (), (0, 0), None, newer)


def lost(world, i, *words):
    """Lets all letters of these words to a home be lost, and all others come."""
    while world.bag():
        letter = world.bag()[0]
        world.event(("lose" if letter[3] in words and letter[0] == ("home", i) else "come", 0))
    return world


def world_with_a_lack(i=2):
    """A world in which one home of three has nothing of what was written, and then the same for another name."""
    world = lost(done(world_of(7), ("do", 7, ("write", "a", TEXT))), i, "put", "head")
    return lost(done(world, ("do", 7, ("write", "b", ""))), i, "put", "head")


class WatchCase(unittest.TestCase):
    def check(self, function, world, wanted, *arguments):
        told = seen(world) if isinstance(world, World) else None
        for _ in range(2):
            found = function(world, *arguments)
            self.assertEqual(found, wanted)
            self.assertIs(type(found), type(wanted))
        if told is not None:
            self.assertEqual(seen(world), told)


class TestMeaning(WatchCase):
    def test_nothing(self):
        self.check(meaning, World(3, THREE), {})
        self.check(meaning, world_of(7), {})
        world = world_of(7)
        ended_op(world, 7, ("read", "a"))
        self.check(meaning, world, {})

    def test_written_and_removed_and_copied(self):
        world = world_of(7, 9)
        ended_op(world, 7, ("write", "a", TEXT))
        self.check(meaning, world, {"a": ((1, 7), TEXT)})
        ended_op(world, 9, ("write", "b", ""))
        self.check(meaning, world, {"a": ((1, 7), TEXT), "b": ((1, 9), "")})
        ended_op(world, 9, ("copy", "a", "zz"))
        ended_op(world, 9, ("remove", "a"))
        self.check(meaning, world, {"a": ((2, 9), None), "b": ((1, 9), ""), "zz": ((1, 9), TEXT)})
        ended_op(world, 7, ("copy", "none", "b"))
        self.check(meaning, world, {"a": ((2, 9), None), "b": ((2, 7), None), "zz": ((1, 9), TEXT)})

    def test_what_one_keeper_has_is_meant(self):
        for i in THREE:
            world = done(world_of(7), ("do", 7, ("write", "a", TEXT)))
            while "head" not in [letter[3] for letter in world.bag()]:
                done(world, ("come", 0))
            while "put" in [letter[3] for letter in world.bag()]:
                done(world, ("come", index_of(world, "put")))
            self.check(meaning, world, {})
            done(world, ("come", index_of(world, "head", ("home", i))))
            self.check(meaning, world, {"a": ((1, 7), TEXT)})
            self.check(lacking_homes, world, {"a": tuple([j for j in THREE if j != i])})
            # A home that is down still has it, one that is gone has not.
            self.check(meaning, done(world.copy(), ("fall", i)), {"a": ((1, 7), TEXT)})
            self.check(meaning, done(world.copy(), ("gone", i)), {})
            self.check(lacking_homes, done(world.copy(), ("gone", i)), {})

    def test_keepers(self):
        """Homes of an elder epoch are no keepers, those of a later one are, others than the members are none."""
        heads = ((("a", (1, 1), ((1, 1),)),), (("a", (2, 1), ((1, 2),)),), (("a", (3, 1), None),), (("a", (4, 1), ()),))
        blocks = (((1, 1), "one"), ((1, 2), "two"))
        parts = [(heads[k], blocks) for k in range(4)]
        tables = [
            table(1, THREE, (0,), *parts[0]), table(0, (0,), (), *parts[1]), table(1, THREE, (0,), *parts[2]),
            table(1, THREE, (0,), *parts[3]),
        ]
        place = (1, THREE, (0,))
        self.check(meaning, Told(tables, place), {"a": ((3, 1), None)})
        self.check(meaning, Told(tables, place, ("up", "up", "gone", "up")), {"a": ((1, 1), "one")})
        self.check(meaning, Told(tables, place, ("up", "up", "down", "up")), {"a": ((3, 1), None)})
        self.check(meaning, Told(tables, place, ("gone", "up", "gone", "up")), {})
        later = tables[:1] + [table(2, (1,), THREE, *parts[1])] + tables[2:]
        self.check(meaning, Told(later, place, ("up", "up", "gone", "up")), {"a": ((2, 1), "two")})
        self.check(meaning, Told([BARE] + later[1:], place, ("up", "gone", "gone", "up")), {})

    def test_texts(self):
        row = ((7, 2), (7, 1), (7, 2))
        told = Told([table(heads=(("a", (5, 2), row), ("b", (1, 1), ()), ("c", (1, 1), None)),
                           blocks=(((7, 1), "~ '"), ((7, 2), "12345678"), ((8, 8), "idle")))], (0, (0,), ()))
        self.check(meaning, told, {"a": ((5, 2), "12345678~ '12345678"), "b": ((1, 1), ""), "c": ((1, 1), None)})

    def test_the_greatest_head(self):
        stamps = ((1, 9), (2, 1), (2, 3))
        for order in itertools.permutations(range(3)):
            tables = [table(heads=(("a", stamps[k], ((1, k + 1),)),), blocks=(((1, k + 1), "text " + str(k)),)) for k in order]
            self.check(meaning, Told(tables, (0, THREE, ())), {"a": ((2, 3), "text 2")})

    def test_after_a_move(self):
        world = world_of(7, homes=5)
        ended_op(world, 7, ("write", "a", TEXT))
        ended_op(world, 7, ("move", (2, 3, 4)))
        self.check(meaning, world, {"a": ((1, 7), TEXT)})
        emptied(world)
        self.check(lacking_homes, world, {})
        ended_op(world, 7, ("write", "a", "x"))
        done(emptied(world), ("gone", 0), ("gone", 1))
        self.check(meaning, world, {"a": ((2, 7), "x")})

    def test_what_is_told_is_the_askers(self):
        world = world_with_a_lack()
        for function in (meaning, lacking_homes):
            found = function(world)
            found["a"] = 5
            found.pop("b")
            found["c"] = ()
            self.assertNotEqual(function(world), found)
            self.assertEqual(list(function(world)), ["a", "b"])


class TestSure(WatchCase):
    def test_no_name(self):
        for world in (World(1, (0,)), world_with_a_lack()):
            for name in NO_NAMES + STRANGE:
                if name != "a":
                    with self.assertRaises(HomeError) as caught:
                        sure(world, name)
                    self.assertIs(type(caught.exception), NoName)

    def test_nobody_has_it(self):
        for homes in (1, 2, 3, 9):
            self.check(sure, World(homes, tuple(range(homes))), (0, 0), "a")

    def test_of_a_world(self):
        world = world_of(7)
        ended_op(world, 7, ("write", "a", TEXT))
        emptied(world)
        self.check(sure, world, (1, 7), "a")
        self.check(sure, world, (0, 0), "b")
        self.check(sure, world_with_a_lack(), (1, 7), "a")
        world = done(world_of(7), ("do", 7, ("write", "a", "")))
        while "head" not in [letter[3] for letter in world.bag()]:
            done(world, ("come", 0))
        # With one keeper that has it, it isn't sure; with two of three it is.
        done(world, ("come", index_of(world, "head")))
        self.check(sure, world, (0, 0), "a")
        done(world, ("come", index_of(world, "head")))
        self.check(sure, world, (1, 7), "a")

    def test_each_majority(self):
        """The least of the greatest stamps that majorities of keepers have."""
        draw = random.Random(3)
        for size in range(1, 8):
            members = tuple(range(size))
            for _ in range(60):
                stamps = [draw.choice(((0, 0), (1, 2), (1, 5), (2, 1), (3, 3))) for _ in members]
                keeps = [draw.random() < 0.8 for _ in members]
                tables = [table(1 if keep else 0, members, (), [("a", stamp, None)] if stamp != (0, 0) else [])
                          for stamp, keep in zip(stamps, keeps)]
                keepers = [i for i in members if keeps[i]]
                found = [max([stamps[i] for i in lot]) for many in range(size // 2 + 1, size + 1)
                         for lot in itertools.combinations(keepers, many)]
                self.check(sure, Told(tables, (1, members, ())), min(found) if found else None, "a")

    def test_as_many_keepers_as_a_majority(self):
        for size in range(1, 10):
            members = tuple(range(size))
            tables = [table(members=members, heads=(("a", (k + 1, 1), None),)) for k in members]
            for many in range(size + 1):
                states = ["up"] * many + ["gone"] * (size - many)
                told = Told(tables, (0, members, ()), states)
                self.check(sure, told, (size // 2 + 1, 1) if many > size // 2 else None, "a")
                later = [one if k < many else BARE for k, one in enumerate(tables)]
                self.check(sure, Told(later, (0, members, ())), (size // 2 + 1, 1) if many > size // 2 else None, "a")

    def test_homes_that_are_down_and_others(self):
        tables = [table(heads=(("a", (k + 1, 1), None),)) for k in range(5)]
        self.check(sure, Told(tables, (0, THREE, ()), ["down"] * 5), (2, 1), "a")
        self.check(sure, Told(tables, (0, (2, 3, 4), ())), (4, 1), "a")
        self.check(sure, Told(tables, (0, THREE, ()), ["up", "gone", "gone", "up", "up"]), None, "a")


class TestLackingHomes(WatchCase):
    def test_all_have_all(self):
        world = world_of(7)
        self.check(lacking_homes, world, {})
        ended_op(world, 7, ("write", "a", TEXT))
        self.check(lacking_homes, emptied(world), {})

    def test_some_lack(self):
        for i in THREE:
            world = world_with_a_lack(i)
            self.check(lacking_homes, world, {"a": (i,), "b": (i,)})
            self.check(lacking_homes, done(world.copy(), ("fall", i)), {"a": (i,), "b": (i,)})
            self.check(lacking_homes, done(world.copy(), ("gone", i)), {})
            ended_op(world, 7, ("write", "b", "new"))
            self.check(lacking_homes, emptied(world), {"a": (i,)})
            done(world, ("mend", i, (i + 1) % 3))
            self.check(lacking_homes, emptied(world), {})

    def test_by_hand(self):
        tables = [
            table(heads=(("a", (1, 1), None), ("b", (5, 1), None), ("c", (1, 1), None))),
            table(heads=(("a", (2, 1), None), ("b", (5, 1), None))),
            table(heads=(("b", (5, 1), None), ("c", (1, 2), None))), table(heads=(("d", (1, 1), None),)),
        ]
        self.check(lacking_homes, Told(tables, (0, THREE, ())), {"a": (0, 2), "c": (0, 1)})
        self.check(lacking_homes, Told(tables, (0, (0, 1, 2, 3), ())), {"a": (0, 2, 3), "b": (3,), "c": (0, 1, 3), "d": (0, 1, 2)})
        self.check(lacking_homes, Told(tables, (0, THREE, ()), ["up", "gone", "down", "up"]), {"a": (2,), "c": (0,)})
        self.check(lacking_homes, Told(tables, (0, (3,), ())), {})
        self.check(lacking_homes, Told(tables[:2] + [BARE, BARE], (0, THREE, ())), {"a": (0,), "c": (1,)})


class TestComplaints(WatchCase):
    def check_told(self, tables, wanted, history=(), place=(0, THREE, ()), states=None):
        self.check(complaints, Told(tables, place, states, history), wanted)

    def test_nothing(self):
        self.check_told([table()] * 3, ())
        self.check_told([BARE] * 9, ())
        self.check(complaints, World(9, (0, 4)), ())

    def test_open(self):
        closed = table(heads=(("a", (1, 1), ((1, 1),)),), blocks=(((1, 1), "x"),))
        broken = spoilt(closed, BLOCKS, ())
        self.assertFalse(is_closed(broken))
        self.check_told([closed, broken, closed], (("open", 1),))
        self.check_told([broken, closed, closed, broken], (("open", 0), ("open", 3)))
        for state in ("up", "down", "gone"):
            self.check_told([broken, closed, closed], (("open", 0),), states=[state, "up", "up"])

    def test_early(self):
        tables = [table(heads=(("a", (2, 7), None),)), table(heads=(("a", (2, 7), None), ("b", (1, 1), None))), table()]
        ends = (
            (("read", "a"), ("read", (2, 7), None), ()), (("read", "a"), ("read", (2, 8), None), ("a",)),
            (("write", "a", "x"), ("written", (3, 1)), ("a",)), (("write", "a", "x"), ("written", (2, 7)), ()),
            (("remove", "b"), ("removed", (1, 1)), ("b",)), (("lease", "b"), ("leased", (1, 1), None), ("b",)),
            (("lease", "b"), ("leased", (0, 0), None), ()), (("copy", "b", "a"), ("copied", (9, 9)), ("a",)),
            (("copy", "a", "b"), ("copied", (1, 1)), ("b",)), (("copy", "a", "c"), ("copied", (1, 1)), ("c",)),
            (("names",), ("names", ("a", "b")), ()), (("free", "b"), ("freed",), ()), (("move", (0,)), ("moved", 9, (0,)), ()),
            (("carry",), ("carried", 9), ()), (("read", "c"), ("read", (0, 0), None), ()),
        )
        for op, result, names in ends:
            history = [("begin", 7, op), ("end", 7, op, result)]
            self.check_told(tables, tuple([("early", name) for name in names]), history)
            # What was begun alone, and what quick told, is no matter.
            self.check_told(tables, (), history[:1])
            self.check_told(tables, (), [("quick", 7, "b", ((5, 5), None)), ("quick", 7, "a", None)])
            # Nor is anything if too few are keepers.
            self.check_told(tables, (), history, states=["gone", "up", "gone"])
            self.check_told([tables[0], BARE, BARE], (), history)
        every = [("end", 7, op, result) for op, result, _ in ends]
        self.check_told(tables, (("early", "a"), ("early", "b"), ("early", "c")), every)
        self.check_told(tables, (("early", "a"), ("early", "b"), ("early", "c")), every[::-1])

    def test_epoch(self):
        one = table(1, THREE, (3,), newer=(0,))
        for other, wanted in (
            (one, ()), (table(1, THREE, (3,)), ()), (table(1, THREE, (3,), newer=(1,)), (("epoch", 0, 2),)),
            (table(1, (0, 1), (3,)), (("epoch", 0, 2),)), (table(1, THREE, ()), (("epoch", 0, 2),)),
            (table(1, THREE, (4,), newer=(0,)), (("epoch", 0, 2),)), (table(3, (7,), ()), ()), (BARE, ()),
            (table(1, THREE, (3,), (("a", (1, 1), None),), newer=(0,)), ()),
        ):
            self.check_told([one, BARE, other], wanted)
            self.check_told([other, BARE, one], wanted)
            self.check_told([one, BARE, other], wanted, states=["down", "up", "gone"])
        self.check_told([spoilt(BARE, NEXT, (0,)), spoilt(BARE, NEXT, (1,))], (), place=(0, (0,), ()))
        self.check_told([table(newer=(0,)), table(newer=(1,)), table(newer=(2,))], (("epoch", 0, 1), ("epoch", 0, 2), ("epoch", 1, 2)))

    def test_next(self):
        one = table(1, THREE, (3,), newer=(0, 4))
        for other, wanted in (
            (table(2, (0, 4), THREE), ()), (table(2, (0, 3), THREE), (("next", 0, 1),)), (table(2, (0, 4), (0, 1)), (("next", 0, 1),)),
            (table(2, (0, 4), ()), (("next", 0, 1),)), (table(3, (5,), ()), ()), (BARE, ()),
        ):
            self.check_told([one, other, BARE], wanted)
            self.check_told([other, BARE, one], tuple([("next", 2, 0) for _ in wanted]))
            self.check_told([one, other, BARE], wanted, states=["gone", "down", "up"])
        # If the former isn't sealed, any members may follow.
        self.check_told([spoilt(one, NEXT, None), table(2, (8,), THREE)], (), place=(1, THREE, (3,)))
        self.check_told([spoilt(one, NEXT, None), table(2, (8,), (1,))], (("next", 0, 1),), place=(1, THREE, (3,)))
        self.check_told([BARE, table(0, THREE, (1,)), table(0, THREE, (1,))], ())

    def test_ascending(self):
        broken = table(heads=(("a", (1, 1), ((1, 1),)),), newer=(0,))
        tables = [table(1, (0,), (1,)), broken, spoilt(broken, NEXT, (1,)), BARE]
        history = [("end", 1, ("read", name), ("read", (5, 5), None)) for name in "cab"]
        found = (("early", "a"), ("early", "b"), ("early", "c"), ("epoch", 1, 2), ("next", 1, 0), ("next", 2, 0), ("open", 1), ("open", 2))
        self.check_told(tables, found, history, place=(0, (0, 1, 2), ()))


class TestDrawnRuns(WatchCase):
    def test_words(self):
        """What watch tells of drawn worlds is what the words of the document say, at each moment."""
        seen_words = {}
        for seed in range(24):
            draw = random.Random(seed)
            homes = draw.randrange(1, 6)
            world = World(homes, drawn_members(draw, homes))
            for _ in range(350):
                if is_done(world, drawn_event(draw, world, seed % len(MIXES), ("a", "b"))):
                    self.check_words(world, seen_words)
        self.assertEqual(len(seen_words), 4)

    def check_words(self, world, seen_words):
        self.assertEqual(complaints(world), ())
        epoch, members, _ = world.ended()
        keepers = [i for i in members if world.homes()[i] != "gone" and world.table(i)[EPOCH] >= epoch]
        heads = {}
        for i in keepers:
            for name, stamp, row in world.table(i)[HEADS]:
                pieces = dict(world.table(i)[BLOCKS])
                text = None if row is None else "".join([pieces[block_id] for block_id in row])
                heads.setdefault(name, []).append((stamp, text))
        wanted = {name: max(heads[name], key=lambda head: head[0]) for name in heads}
        self.assertEqual(meaning(world), wanted)
        lacking = {name: tuple([i for i in keepers if head_of(world.table(i), name)[0] < wanted[name][0]]) for name in wanted}
        self.assertEqual(lacking_homes(world), {name: lacking[name] for name in lacking if lacking[name]})
        for name in ("a", "b", "zz"):
            stamps = sorted([head_of(world.table(i), name)[0] for i in keepers])
            many = len(members) // 2 + 1
            least = stamps[many - 1] if len(stamps) >= many else None
            self.assertEqual(sure(world, name), least)
            seen_words["sure" if least not in (None, (0, 0)) else "not sure"] = True
        seen_words["lacking" if lacking_homes(world) else "all"] = True


if __name__ == "__main__":
    unittest.main()
