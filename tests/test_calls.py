"""[19]: the history of the reads and writes of a world, which has a right order."""

import random
import unittest

from homeshold.calls import calls_of
from homeshold.histories import is_history, is_right_order, right_order
from homeshold.world import World
from runs import MIXES, done, drawn_event, drawn_members, emptied, ended_op, is_done, seen, stamped, world_of


def half_written(world, h, op, homes=(0,)):
    """Lets a hand begin a write, of which just these homes hear the head, and lets it die."""
    world.event(("do", h, op))
    while "head" not in [letter[3] for letter in world.bag()]:
        world.event(("come", 0))
    while world.bag():
        to, _, _, word, _ = world.bag()[0]
        world.event(("lose" if word in ("put", "head") and to[1] not in homes else "come", 0))
    return done(world, ("die", h))


def told_calls(world):
    """The calls of a world by the words of the document, in no order that matters."""
    items = list(zip(world.history(), world.moments()))
    calls, open_ops = [], {}
    for item, at in items:
        if item[0] == "begin":
            open_ops[item[1]] = (item[2], at)
        elif item[0] == "quick":
            if item[3] is not None:
                calls.append(("read", item[2], item[3][0] if item[3][0] != (0, 0) else None, 2 * at, 2 * at + 1))
        else:
            op, begin = open_ops.pop(item[1])
            if op[0] in ("read", "lease"):
                calls.append(("read", op[1], item[3][1] if item[3][1] != (0, 0) else None, 2 * begin, 2 * at + 1))
            elif op[0] in ("write", "remove", "copy"):
                calls.append(("write", stamped(op), item[3][1], 2 * begin, 2 * at + 1))
    for h, (op, begin) in open_ops.items():
        if op[0] in ("write", "remove", "copy"):
            name = stamped(op)
            written = [call[2] for call in calls if call[:2] == ("write", name)]
            stamps = {call[2] for call in calls if call[:2] == ("read", name) and call[2] is not None} - set(written)
            for stamp in stamps:
                if stamp[1] == h:
                    calls.append(("write", name, stamp, 2 * begin, None))
    return calls


class CallsCase(unittest.TestCase):
    def check_calls(self, world, *wanted):
        """These are the calls, in whatever order, and there is a right order of them."""
        before = seen(world)
        found = calls_of(world)
        self.assertIs(type(found), tuple)
        self.assertEqual(sorted(found, key=repr), sorted(wanted, key=repr))
        self.check_right(world)
        self.assertEqual(seen(world), before)

    def check_right(self, world):
        found = calls_of(world)
        self.assertEqual(calls_of(world), found)
        self.assertTrue(is_history(found))
        order = right_order(found)
        self.assertIsNotNone(order)
        self.assertTrue(is_right_order(found, order))


class TestCalls(CallsCase):
    def test_none(self):
        self.check_calls(World(1, (0,)))
        self.check_calls(world_of(1, 2))

    def test_operations_that_ended(self):
        world = world_of(7)
        last = [len(world.events())]

        def step(op):
            """The moments of the begin and the end of an operation."""
            ended_op(world, 7, op)
            begin = last[0]
            last[0] = len(world.events())
            return 2 * begin, 2 * (last[0] - 1) + 1

        calls = [
            ("read", "a", None) + step(("read", "a")), ("write", "a", (1, 7)) + step(("write", "a", "x")),
            ("read", "a", (1, 7)) + step(("read", "a")), ("write", "a", (2, 7)) + step(("remove", "a")),
            ("read", "a", (2, 7)) + step(("lease", "a")), ("write", "b", (1, 7)) + step(("copy", "a", "b")),
            ("read", "c", None) + step(("lease", "c")),
        ]
        for op in (("names",), ("free", "c"), ("move", (1, 2)), ("carry",)):
            step(op)
        calls.append(("write", "b", (2, 7)) + step(("write", "b", "")))
        calls.append(("write", "b", (3, 7)) + step(("copy", "b", "b")))
        self.check_calls(world, *calls)

    def test_by_hand(self):
        world = done(World(1, (0,)), ("hand", 3), ("do", 3, ("read", "a")), ("come", 0), ("come", 0))
        self.assertEqual(calls_of(world), (("read", "a", None, 2, 7),))
        done(world, ("do", 3, ("remove", "a")))
        self.assertEqual(calls_of(world), (("read", "a", None, 2, 7),))
        world.settle(100)
        self.assertEqual(calls_of(world), (("read", "a", None, 2, 7), ("write", "a", (1, 3), 8, 17)))

    def test_quick(self):
        world = world_of(7)
        done(world, ("quick", 7, "a"))
        ended_op(world, 7, ("lease", "a"))
        lease = ("read", "a", None, 4, 2 * len(world.events()) - 1)
        at = len(world.events())
        done(world, ("quick", 7, "a"), ("quick", 7, "b"))
        self.check_calls(world, lease, ("read", "a", None, 2 * at, 2 * at + 1))
        ended_op(world, 7, ("write", "a", "x"))
        begin = at + 2
        write = ("write", "a", (1, 7), 2 * begin, 2 * len(world.events()) - 1)
        ended_op(world, 7, ("lease", "a"))
        begin, at = write[4] // 2 + 1, len(world.events())
        again = ("read", "a", (1, 7), 2 * begin, 2 * at - 1)
        done(world, ("quick", 7, "a"))
        self.check_calls(world, lease, ("read", "a", None, lease[4] + 1, lease[4] + 2), write, again, ("read", "a", (1, 7), 2 * at, 2 * at + 1))

    def test_what_never_ended(self):
        world = world_of(7, 8)
        for op in (("read", "a"), ("lease", "a"), ("names",), ("free", "a"), ("write", "a", "x"), ("remove", "a"), ("copy", "a", "b"),
                   ("move", (0,))):
            self.check_calls(done(world.copy(), ("do", 7, op)))
            self.check_calls(done(world.copy(), ("do", 7, op), ("die", 7)))

    def test_writes_that_never_ended(self):
        for op, name in ((("write", "a", "x"), "a"), (("remove", "a"), "a"), (("copy", "b", "a"), "a"), (("copy", "a", "a"), "a")):
            world = half_written(world_of(7, 8), 7, op)
            begin = 2 * [event for event in world.events()].index(("do", 7, op))
            # Nobody read it.
            self.check_calls(world)
            # Home 0 is one of those that a read asks.
            at = len(world.events())
            self.assertEqual(ended_op(world, 8, ("read", name))[1], (1, 7))
            self.check_calls(world, ("write", name, (1, 7), begin, None), ("read", name, (1, 7), 2 * at, 2 * len(world.events()) - 1))

    def test_writes_that_never_ended_and_that_nobody_read(self):
        world = half_written(world_of(7, 8), 7, ("write", "a", "x"), homes=(2,))
        done(world, ("fall", 2), ("do", 8, ("read", "a")))
        at = len(world.events()) - 1
        for _ in range(5):
            done(world, ("come", 0))
        self.assertEqual(world.hand(8).result(), ("read", (0, 0), None))
        self.check_calls(world, ("read", "a", None, 2 * at, 2 * len(world.events()) - 1))
        # Another hand's write goes above it, whether it was read or not.
        ended_op(world, 8, ("write", "a", "y"))
        self.assertEqual([call[:3] for call in calls_of(world)], [("read", "a", None), ("write", "a", (1, 8))])

    def test_read_by_a_quick_and_a_lease(self):
        world = half_written(world_of(7, 8), 7, ("write", "a", "x"))
        self.assertEqual(ended_op(world, 8, ("lease", "a")), ("leased", (1, 7), "x"))
        done(world, ("quick", 8, "a"))
        self.assertEqual(sorted([call[:3] for call in calls_of(world)]), [("read", "a", (1, 7))] * 2 + [("write", "a", (1, 7))])
        self.check_right(world)

    def test_several_that_never_ended(self):
        world = world_of(7, 8, 9)
        half_written(world, 7, ("write", "a", "x"))
        half_written(world, 9, ("write", "b", "y"))
        ended_op(world, 8, ("read", "a"))
        ended_op(world, 8, ("read", "b"))
        self.assertEqual(sorted([call[:3] + call[4:] for call in calls_of(world) if call[0] == "write"]), [
            ("write", "a", (1, 7), None), ("write", "b", (1, 9), None)])
        self.check_right(world)

    def test_of_two_writes_of_one_hand_the_ended_one_too(self):
        world = world_of(7, 8)
        ended_op(world, 7, ("write", "a", "x"))
        half_written(emptied(world), 7, ("write", "a", "y"))
        ended_op(world, 8, ("read", "a"))
        self.assertEqual(sorted([call[:3] for call in calls_of(world)]), [
            ("read", "a", (2, 7)), ("write", "a", (1, 7)), ("write", "a", (2, 7))])
        self.check_right(world)

    def test_stamps_alike_at_two_names(self):
        world = world_of(7, 8)
        ended_op(world, 7, ("write", "b", "x"))
        half_written(emptied(world), 7, ("write", "a", "y"))
        ended_op(world, 8, ("read", "a"))
        self.check_calls(world, *told_calls(world))
        self.assertEqual(sorted([call[:3] for call in calls_of(world)]), [
            ("read", "a", (1, 7)), ("write", "a", (1, 7)), ("write", "b", (1, 7))])

    def test_two_hands_that_never_ended_at_one_name(self):
        # Hand 9 begins first, but its stamp is the later one.
        world = done(world_of(7, 8, 9), ("do", 9, ("write", "a", "late")))
        for _ in range(3):
            done(world, ("lose", 0))
        begin = 2 * (len(world.events()) - 4)
        half_written(world, 7, ("write", "a", "first"))
        emptied(done(world, ("do", 8, ("read", "a"))))
        self.assertEqual(world.hand(8).result()[1], (1, 7))
        done(world, ("again", 9))
        while "head" not in [letter[3] for letter in world.bag()]:
            done(world, ("come", 0))
        while world.bag():
            to, _, _, word, _ = world.bag()[0]
            done(world, ("lose" if word in ("put", "head") and to[1] else "come", 0))
        self.assertEqual(ended_op(done(world, ("die", 9)), 8, ("read", "a"))[1], (2, 9))
        self.check_calls(world, *told_calls(world))
        self.assertIn(("write", "a", (2, 9), begin, None), calls_of(world))

    def test_at_each_moment_of_a_write(self):
        world = world_of(7, 8)
        done(world, ("do", 7, ("write", "a", "x")), ("do", 8, ("read", "a")))
        for _ in range(200):
            if not world.bag():
                break
            done(world, ("come", random.Random(len(world.events())).randrange(len(world.bag()))))
            self.check_calls(world, *told_calls(world))
        self.assertIn("write", [call[0] for call in calls_of(world)])

    def test_drawn_worlds(self):
        kinds = {}
        for seed in range(60):
            draw = random.Random(seed)
            homes = draw.randrange(1, 6)
            world = World(homes, drawn_members(draw, homes))
            for k in range(500):
                is_done(world, drawn_event(draw, world, seed % len(MIXES), ("a", "b")))
                if k % 50 == 0:
                    self.check_calls(world, *told_calls(world))
            self.check_calls(world, *told_calls(world))
            for kind, name, told, begin, end in calls_of(world):
                kinds[kind, told is None, end is None] = True
        self.assertEqual(sorted(kinds), [("read", False, False), ("read", True, False), ("write", False, False), ("write", False, True)])


if __name__ == "__main__":
    unittest.main()
