"""[17]: which events are possible and let, and what settle does."""

import random
import unittest

from homeshold.errors import HomeError, NoEvent, NoNumber
from homeshold.world import World
from runs import done, drawn_event, drawn_members, emptied, ended_op, index_of, is_done, seen, waits_for_ever, world_of
from samples import NO_COUNTS, NO_HANDS, NO_HOMES, NO_INTEGERS, NO_MEMBERS, NO_NAMES, STRANGE, nested, spoilt

THREE = (0, 1, 2)
NO_OPS = STRANGE + (
    ("read",), ("read", "A"), ("read", "a", "b"), ["read", "a"], ("write", "a"), ("write", "a", "x" * 97), ("copy", "a"), ("move", ()),
    ("move", (1, 0)), ("move", [0]), ("carry", 0), ("names", "a"), ("reads", "a"), ("take", "a"),
)
NO_MACHINES = STRANGE + (
    ("home",), ("hand",), ("home", -1), ("home", 9), ("hand", 0), ("hand", 100), ("home", True), ("hand", True), ["home", 0],
    ("Home", 0), ("homes", 0), ("home", 0, 0), (("home", 0),), ("home", None), (0, "home"), ("home", "0"),
)
NO_MOST = tuple([thing for thing in NO_COUNTS if thing is not None])
# An event of each word that the world below lets, and what spoils each of its parts.
EVENTS = (
    (("hand", 8), (NO_HANDS,)), (("do", 2, ("read", "a")), (NO_HANDS, NO_OPS)), (("again", 7), (NO_HANDS,)),
    (("die", 7), (NO_HANDS,)), (("come", 0), (NO_COUNTS,)), (("double", 0), (NO_COUNTS,)), (("lose", 0), (NO_COUNTS,)),
    (("cut", 0, 5), (NO_COUNTS, NO_COUNTS)), (("fall", 0), (NO_HOMES,)), (("rise", 1), (NO_HOMES,)), (("gone", 1), (NO_HOMES,)),
    (("tick", ("home", 0)), (NO_MACHINES,)), (("tick", ("hand", 7)), (NO_MACHINES,)), (("collect", 0), (NO_HOMES,)),
    (("compact", 0, None), (NO_HOMES, NO_MOST)), (("compact", 0, 3), (NO_HOMES, NO_MOST)), (("mend", 0, 1), (NO_HOMES, NO_HOMES)),
    (("quick", 7, "a"), (NO_HANDS, NO_NAMES)),
)


class EventCase(unittest.TestCase):
    def check_refused(self, world, *events):
        before = seen(world)
        for event in events:
            told = repr(event)
            with self.assertRaises(HomeError, msg=told[:200]) as caught:
                world.event(event)
            self.assertIs(type(caught.exception), NoEvent)
            self.assertEqual(repr(event), told)
        self.assertEqual(seen(world), before)

    def check_let(self, world, *events):
        """Each of these is let, of the same world."""
        for event in events:
            self.assertTrue(is_done(world.copy(), event), event)


class TestForms(EventCase):
    def world(self):
        return done(world_of(7, 2, homes=4), ("do", 7, ("read", "a")), ("fall", 1))

    def test_good(self):
        self.check_let(self.world(), *[event for event, _ in EVENTS])

    def test_each_part_spoilt(self):
        world = self.world()
        for event, wrongs in EVENTS:
            for at, parts in enumerate(wrongs):
                self.check_refused(world, *[spoilt(event, at + 1, part) for part in parts])

    def test_a_part_more_and_less(self):
        world = self.world()
        for event, _ in EVENTS:
            self.check_refused(world, *[event[:many] for many in range(len(event))])
            self.check_refused(world, *[event + (part,) for part in (0, None, "a", ("home", 0), ())])
            self.check_refused(world, list(event), (event,), event[::-1], (event[0] + "s",) + event[1:], (event[0].upper(),) + event[1:])
            self.check_refused(world, (None,) + event[1:], (0,) + event[1:], ([event[0]],) + event[1:], ({},) + event[1:],
                               ((event[0],),) + event[1:], ("",) + event[1:], event[1:])

    def test_no_tuples(self):
        self.check_refused(self.world(), *STRANGE)
        self.check_refused(self.world(), *NO_INTEGERS)
        self.check_refused(self.world(), None, True, "come", ("come",), (("come", 0),), {"come": 0}, nested("hand", 29))

    def test_flags_are_no_numbers(self):
        world = done(self.world(), ("hand", 1))
        self.check_refused(world, ("again", True), ("die", True), ("do", True, ("read", "a")), ("quick", True, "a"), ("come", False),
                           ("lose", True), ("fall", False), ("collect", False), ("mend", False, 1), ("mend", 0, True),
                           ("compact", 0, False), ("compact", False, None), ("cut", False, 0), ("cut", 0, False), ("rise", True),
                           ("gone", True), ("tick", ("hand", True)), ("tick", ("home", False)))


class TestPossible(EventCase):
    def test_hands(self):
        world = done(world_of(7, 2), ("die", 2))
        for h in (7, 2):
            self.check_refused(world, ("hand", h))
        for h in (2, 3, 99):
            self.check_refused(world, ("die", h), ("again", h), ("do", h, ("read", "a")), ("quick", h, "a"), ("tick", ("hand", h)))
        self.check_let(world, ("hand", 1), ("hand", 99), ("die", 7), ("again", 7), ("tick", ("hand", 7)))
        done(world, ("die", 7))
        self.check_refused(world, ("hand", 7), ("die", 7))

    def test_one_operation_at_a_time(self):
        world = world_of(7, 2)
        for op in (("read", "a"), ("carry",), ("move", (0,))):
            self.check_let(world, ("do", 7, op))
        done(world, ("do", 7, ("read", "a")))
        for op in (("read", "a"), ("carry",), ("move", (0,)), ("names",), ("quick", "a")):
            self.check_refused(world, ("do", 7, op))
        self.check_let(world, ("do", 2, ("read", "a")))
        world.settle(100)
        self.check_let(world, ("do", 7, ("read", "a")))

    def test_letters(self):
        world = world_of(7)
        for word in ("come", "double", "lose"):
            self.check_refused(world, (word, 0), (word, 1))
        self.check_refused(world, ("cut", 0, 0))
        done(world, ("do", 7, ("read", "a")))
        for word in ("come", "double", "lose"):
            self.check_let(world, (word, 0), (word, 1), (word, 2))
            self.check_refused(world, (word, 3), (word, -1), (word, 10 ** 29))
        self.check_let(world, ("cut", 2, 0), ("cut", 0, 10 ** 29))
        self.check_refused(world, ("cut", 3, 0), ("cut", -1, 0), ("cut", 0, -1))

    def test_cut(self):
        world = done(world_of(7), ("do", 7, ("read", "a")), ("come", 0), ("fall", 1), ("gone", 2))
        self.assertEqual([letter[0] for letter in world.bag()], [("home", 1), ("home", 2), ("hand", 7)])
        for k in range(3):
            self.check_refused(world, ("cut", k, 0), ("cut", k, 10))
        done(world, ("rise", 1))
        self.check_let(world, ("cut", 0, 0))

    def test_homes(self):
        world = done(World(4, THREE), ("fall", 1), ("gone", 2))
        for i in (1, 2):
            self.check_refused(world, ("fall", i), ("collect", i), ("compact", i, None), ("compact", i, 0), ("mend", i, 0),
                               ("tick", ("home", i)))
        for i in (0, 2, 3):
            self.check_refused(world, ("rise", i))
        for i in (0, 3):
            self.check_let(world, ("fall", i), ("collect", i), ("compact", i, None), ("compact", i, 0), ("mend", i, 1), ("mend", i, 2),
                           ("tick", ("home", i)))
        self.check_refused(world, ("gone", 2))
        for i in (4, 5, 8, 9):
            self.check_refused(world, ("fall", i), ("rise", i), ("gone", i), ("collect", i), ("compact", i, None), ("mend", i, 0),
                               ("mend", 0, i), ("tick", ("home", i)))
        self.check_refused(world, ("mend", 0, 0), ("mend", 3, 3))

    def test_moves(self):
        world = world_of(7, homes=5)
        for members in ((0,), (4,), (0, 1, 2, 3, 4), (3, 4)):
            self.check_let(world, ("do", 7, ("move", members)))
        for members in ((5,), (0, 5), (8,), (0, 1, 2, 3, 4, 5)) + NO_MEMBERS:
            self.check_refused(world, ("do", 7, ("move", members)))
        done(world, ("gone", 4))
        for members in ((0, 1, 4), (0, 4, 3, 2)[::-1], (0,), (0, 1, 2, 3, 4)):
            self.check_let(world, ("do", 7, ("move", tuple(sorted(members)))))
        self.check_refused(world, ("do", 7, ("move", (4,))), ("do", 7, ("move", (0, 4))))
        done(world, ("gone", 3))
        for members in ((0, 3, 4), (0, 1, 3, 4), (3,), (3, 4), (0, 3)):
            self.check_refused(world, ("do", 7, ("move", members)))
        self.check_let(world, ("do", 7, ("move", (0, 1, 2, 3, 4))), ("do", 7, ("move", (0, 1, 3))))


class TestGone(EventCase):
    def test_of_one_epoch(self):
        for homes in range(1, 9):
            members = tuple(range(homes))
            world = World(homes + 1, members)
            self.check_let(world, ("gone", homes))
            done(world, ("gone", homes))
            for i in range((homes - 1) // 2):
                self.check_let(world, *[("gone", j) for j in range(i, homes)])
                done(world, ("gone", i))
            self.check_refused(world, *[("gone", j) for j in range(homes)])

    def test_who_is_down(self):
        world = done(World(3, THREE), ("fall", 0), ("fall", 1), ("fall", 2), ("gone", 1))
        self.check_refused(world, ("gone", 0), ("gone", 2))

    def test_an_elder_epoch(self):
        """Members are let go as soon as no living hand stays at their epoch."""
        world = world_of(1, 2, homes=5)
        self.assertEqual(ended_op(world, 1, ("move", (3, 4))), ("moved", 1, (3, 4)))
        done(emptied(world), ("gone", 0))
        self.check_refused(world, ("gone", 1), ("gone", 2), ("gone", 3), ("gone", 4))
        self.check_let(done(world.copy(), ("die", 2)), ("gone", 1), ("gone", 2))
        self.check_refused(done(world.copy(), ("die", 2)), ("gone", 3), ("gone", 4))
        self.check_refused(done(world.copy(), ("die", 1)), ("gone", 1), ("gone", 2))
        # A hand that comes now comes at the epoch that is ended.
        self.check_let(done(world.copy(), ("die", 2), ("hand", 3)), ("gone", 1), ("gone", 2))
        # When hand 2 has gone on it is let, too, and all of them may go then.
        self.assertEqual(ended_op(world, 2, ("read", "a")), ("read", (0, 0), None))
        self.assertEqual(world.hand(2).at_place()[0], 1)
        done(world, ("gone", 1), ("gone", 2))
        self.check_refused(world, ("gone", 3), ("gone", 4))

    def test_members_that_a_move_named(self):
        world = world_of(1, 2, homes=9)
        self.check_let(done(world.copy(), ("gone", 3), ("gone", 4)), ("gone", 5))
        done(world, ("do", 1, ("move", (3, 4, 5))), ("gone", 3))
        self.check_refused(world, ("gone", 4), ("gone", 5))
        self.check_let(world, ("gone", 0), ("gone", 6), ("gone", 7))
        # Also when the hand died.
        done(world, ("die", 1))
        self.check_refused(world, ("gone", 4), ("gone", 5))
        while world.bag():
            done(world, ("lose", 0))
        # Another move ends that epoch, but this hand's own members are kept from then on.
        self.assertEqual(ended_op(world, 2, ("move", (0, 1, 6))), ("moved", 1, (0, 1, 6)))
        self.check_let(world, ("gone", 4), ("gone", 5), ("gone", 2))
        done(world, ("gone", 4), ("gone", 5), ("gone", 6))
        self.check_refused(world, ("gone", 0), ("gone", 1))

    def test_members_named_at_an_elder_place(self):
        world = world_of(1, 2, homes=9)
        ended_op(world, 1, ("move", (3, 4, 5)))
        done(emptied(world), ("do", 2, ("move", (6, 7, 8))), ("gone", 6))
        # Hand 2 stays at epoch 0, so that all that was named there is kept.
        self.check_refused(world, ("gone", 7), ("gone", 8))
        done(world, ("die", 2))
        self.check_let(world, ("gone", 7), ("gone", 8))

    def test_a_move_that_ended_elsewhere(self):
        world = world_of(1, 2, homes=9)
        ended_op(world, 1, ("move", (3, 4, 5)))
        self.assertEqual(ended_op(world, 2, ("move", (6, 7, 8))), ("moved", 1, (3, 4, 5)))
        done(emptied(world), ("gone", 6), ("gone", 7), ("gone", 8), ("gone", 0), ("gone", 1), ("gone", 2), ("gone", 3))
        self.check_refused(world, ("gone", 4), ("gone", 5))

    def test_one_who_keeps_an_epoch_that_is_not_ended(self):
        """One who has a table of an epoch goes only if a majority stays that has it."""
        world = done(world_of(1, homes=6), ("do", 1, ("move", (3, 4, 5))))
        while "install" not in [letter[3] for letter in world.bag()]:
            done(world, ("come", 0))
        self.check_let(world, ("gone", 3), ("gone", 4), ("gone", 5))
        done(world, ("come", index_of(world, "install", ("home", 3))))
        self.assertEqual([world.table(i)[0] for i in range(6)], [0, 0, 0, 1, -1, -1])
        self.check_refused(world, ("gone", 3))
        self.check_let(world, ("gone", 4), ("gone", 5), ("gone", 0))
        done(world, ("come", index_of(world, "install", ("home", 4))))
        self.assertEqual(world.ended()[0], 1)
        # Just a majority has it now: none of these two goes.
        self.check_refused(world, ("gone", 3), ("gone", 4))
        self.check_let(world, ("gone", 5))
        twin = done(world.copy(), ("gone", 5))
        self.check_refused(twin, ("gone", 3), ("gone", 4))
        done(world, ("come", index_of(world, "install", ("home", 5))))
        self.check_let(world, ("gone", 3), ("gone", 4), ("gone", 5))
        done(world, ("gone", 3))
        self.check_refused(world, ("gone", 4), ("gone", 5))

    def test_one_who_is_a_member_of_both(self):
        world = done(world_of(1, homes=4), ("do", 1, ("move", (1, 2, 3))))
        while "install" not in [letter[3] for letter in world.bag()]:
            done(world, ("come", 0))
        done(world, ("come", index_of(world, "install", ("home", 1))), ("fall", 1))
        # Home 1 has a table of epoch 1, which counts for epoch 0, too, but no majority has that of epoch 1.
        self.check_refused(world, ("gone", 1))
        self.check_let(world, ("gone", 0), ("gone", 2), ("gone", 3))
        done(world, ("gone", 0))
        self.check_refused(world, ("gone", 1), ("gone", 2))
        self.check_let(world, ("gone", 3))

    def test_a_place_that_no_table_has_yet(self):
        world = done(world_of(1, 2, homes=4), ("do", 1, ("move", (3,))))
        while "install" not in [letter[3] for letter in world.bag()]:
            done(world, ("come", 0))
        done(world, ("do", 2, ("read", "a")))
        while world.hand(2).at_place()[0] == 0:
            k = [k for k, letter in enumerate(world.bag()) if ("hand", 2) in letter[:2]][0]
            done(world, ("come", k))
        self.assertEqual(world.ended(), (0, THREE, ()))
        self.check_refused(world, ("gone", 3))
        done(world, ("die", 1))
        self.check_refused(world, ("gone", 3))
        self.check_let(world, ("gone", 0))


class TestTicks(EventCase):
    def test_homes_without_a_hand(self):
        world = World(2, (0,))
        for _ in range(20):
            done(world, ("tick", ("home", 0)), ("tick", ("home", 1)))
        done(world, ("hand", 1), ("die", 1))
        for _ in range(5):
            done(world, ("tick", ("home", 0)))

    def test_a_hand_that_came(self):
        world = done(World(3, THREE), *[("tick", ("home", 0))] * 5)
        done(world, ("hand", 1), ("tick", ("home", 0)), ("tick", ("home", 0)), ("tick", ("home", 2)))
        self.check_refused(world, ("tick", ("home", 0)))
        self.check_let(world, ("tick", ("home", 1)), ("tick", ("home", 2)))
        done(world, ("tick", ("home", 2)))
        self.check_refused(world, ("tick", ("home", 0)), ("tick", ("home", 2)))

    def test_a_hand_that_ticked(self):
        world = done(world_of(1), ("tick", ("home", 0)), ("tick", ("hand", 1)), ("tick", ("home", 0)), ("tick", ("home", 0)))
        self.check_refused(world, ("tick", ("home", 0)))
        for _ in range(4):
            done(world, ("tick", ("hand", 1)), ("tick", ("hand", 1)), ("tick", ("home", 0)), ("tick", ("home", 0)))
            self.check_refused(world, ("tick", ("home", 0)))

    def test_each_living_hand(self):
        world = done(world_of(1, 2), ("tick", ("home", 0)), ("tick", ("home", 0)), ("tick", ("hand", 1)))
        self.check_refused(world, ("tick", ("home", 0)))
        self.check_let(done(world.copy(), ("tick", ("hand", 2))), ("tick", ("home", 0)))
        self.check_let(done(world.copy(), ("die", 2)), ("tick", ("home", 0)))
        self.check_refused(done(world.copy(), ("die", 1)), ("tick", ("home", 0)))
        # One that comes has seen none of the ticks, but the others stay.
        self.check_refused(done(world.copy(), ("hand", 3)), ("tick", ("home", 0)))
        self.check_let(done(world.copy(), ("die", 2), ("hand", 3)), ("tick", ("home", 0)))
        twin = done(world.copy(), ("die", 2), ("hand", 3), ("tick", ("home", 0)), ("tick", ("home", 0)))
        self.check_refused(twin, ("tick", ("home", 0)))

    def test_falls_do_not_count(self):
        world = done(world_of(1), ("tick", ("home", 0)), ("fall", 0), ("rise", 0), ("tick", ("home", 0)), ("fall", 0), ("rise", 0))
        self.check_refused(world, ("tick", ("home", 0)))

    def test_hands_may_tick_ever_so_often(self):
        done(world_of(1), *[("tick", ("hand", 1))] * 20)


def goes_on(world, end):
    """Whether settle does one more event, by its words."""
    return len(world.events()) < end and any([world.hand(h).running() is not None for h in world.hands()])


def settled(world, most):
    """What settle does, by its words, event by event."""
    end = len(world.events()) + most

    def step(event):
        if goes_on(world, end):
            world.event(event)

    def empty():
        while world.bag() and goes_on(world, end):
            world.event(("come", 0))

    while goes_on(world, end):
        for i, state in enumerate(world.homes()):
            if state == "down":
                step(("rise", i))
        empty()
        for h in world.hands():
            if world.hand(h).running() is not None:
                step(("again", h))
                empty()
        for h in world.hands():
            step(("tick", ("hand", h)))
        for i, state in enumerate(world.homes()):
            if state == "up":
                step(("tick", ("home", i)))
    return world


class TestSettle(EventCase):
    def check_settle(self, world, most):
        twin, other = world.copy(), world.copy()
        before = len(world.events())
        for one in (twin, other):
            many = one.settle(most)
            self.assertIs(type(many), int)
            self.assertEqual(many, len(one.events()) - before)
            self.assertLessEqual(many, most)
        self.assertEqual(seen(twin), seen(settled(world.copy(), most)))
        self.assertEqual(seen(twin), seen(other))
        return twin

    def test_no_operation(self):
        for world in (World(3, THREE), world_of(1, 2), done(world_of(1, 2), ("do", 2, ("read", "a")), ("die", 2), ("fall", 0))):
            before = seen(world)
            for most in (0, 1, 20000):
                self.assertEqual(world.settle(most), 0)
            self.assertEqual(seen(world), before)

    def test_no_number(self):
        world = done(world_of(1), ("do", 1, ("read", "a")))
        before = seen(world)
        for most in NO_INTEGERS + (-1, -2, 20001, 10 ** 29, None, True, False):
            for one in (world, World(1, (0,))):
                with self.assertRaises(HomeError) as caught:
                    one.settle(most)
                self.assertIs(type(caught.exception), NoNumber)
        self.assertEqual(seen(world), before)
        self.assertEqual(world.settle(20000), 5)

    def test_by_hand(self):
        world = done(world_of(5, 1, homes=4), ("fall", 3), ("fall", 0), ("do", 1, ("read", "a")), ("gone", 2))
        self.assertEqual(world.settle(20000), 7)
        self.assertEqual(world.events()[-7:], [("rise", 0), ("rise", 3)] + [("come", 0)] * 5)
        # It ended amid a round, as soon as the answer of home 1 had come.
        self.assertEqual(world.hand(1).result(), ("read", (0, 0), None))
        world = done(world_of(5, 1), ("do", 1, ("write", "a", "x")), ("lose", 0), ("lose", 0), ("lose", 0))
        self.assertEqual(world.settle(2), 2)
        self.assertEqual(world.events()[-2:], [("again", 1), ("come", 0)])

    def test_rounds(self):
        # Hand 5 leases what hand 1 wants to write.
        world = world_of(5, 1)
        ended_op(world, 5, ("lease", "a"))
        done(emptied(world), ("do", 1, ("write", "a", "x")))
        self.check_settle(world, 20000)
        many = world.settle(20000)
        rounds = [("tick", ("hand", 1)), ("tick", ("hand", 5)), ("tick", ("home", 0)), ("tick", ("home", 1)), ("tick", ("home", 2))]
        events = world.events()[-many:]
        self.assertEqual(events.count(("again", 1)), 9)
        self.assertEqual(events.count(("again", 5)), 0)
        ticks = [event for event in events if event[0] == "tick"]
        self.assertEqual(ticks, rounds * 8)
        self.assertEqual(world.hand(1).result(), ("written", (1, 1)))

    def test_each_most(self):
        world = done(world_of(5, 1, homes=5), ("do", 1, ("write", "a", "some words")), ("do", 5, ("move", (1, 2, 3))), ("cut", 1, 0),
                     ("fall", 2), ("gone", 0))
        many = world.copy().settle(20000)
        self.assertGreater(many, 30)
        for most in list(range(many + 3)) + [20000]:
            twin = self.check_settle(world, most)
            self.assertEqual(len(twin.events()) - len(world.events()), min(most, many))
        # Settled bit by bit, each time rounds begin anew.
        for size in (1, 3, 7):
            twin = world.copy()
            for _ in range(60):
                other = settled(twin.copy(), size)
                twin.settle(size)
                self.assertEqual(seen(twin), seen(other))

    def test_drawn_worlds(self):
        for seed in range(40):
            draw = random.Random(seed)
            homes = draw.randrange(1, 6)
            world = World(homes, drawn_members(draw, homes))
            for _ in range(250):
                is_done(world, drawn_event(draw, world, seed % 4, ("a", "b")))
            for most in (draw.randrange(60), 20000):
                self.check_settle(world, most)

    def test_ends_every_operation(self):
        for op in (("read", "a"), ("write", "a", "x" * 96), ("remove", "a"), ("copy", "a", "b"), ("names",), ("lease", "a"), ("free", "a"),
                   ("move", (1, 4)), ("carry",)):
            world = world_of(1, 2, 3, homes=5)
            ended_op(world, 2, ("write", "a", "y" * 20))
            ended_op(world, 3, ("lease", "a"))
            done(world, ("do", 1, op), ("gone", 0), ("fall", 1), ("fall", 2))
            self.assertEqual(self.check_settle(world, 20000).hand(1).running(), None)

    def test_one_that_waits_for_ever(self):
        """By the words of points 12 and 17 a settle may not end what runs, whatever the fact in 17 tells.

        Home 0 counts for hand 1, as it was sealed when hand 1 sealed it; again doesn't write to it any more. It is
        installed then, and as all hands are at epoch 1 now, home 1, for which hand 1 still waits, is let go.
        """
        world = done(world_of(1, 2, homes=2, members=(0, 1)), ("do", 2, ("move", (0,))))
        while "install" not in [letter[3] for letter in world.bag()]:
            done(world, ("come", 0))
        done(world, ("do", 1, ("read", "a")))
        for word, to in (("ask", ("home", 0)), ("moved", ("hand", 1)), ("seal", ("home", 0)), ("sealed", ("hand", 1))):
            done(world, ("come", index_of(world, word, to)))
        self.assertEqual(world.hand(1).at_place(), (1, (0,), (0, 1)))
        for word, to in (("install", ("home", 0)), ("installed", ("hand", 2))):
            done(world, ("come", index_of(world, word, to)))
        done(world, ("gone", 1))
        self.assertTrue(waits_for_ever(world, 1))
        self.assertEqual(world.settle(3000), 3000)
        self.assertEqual(world.hand(1).running(), ("read", "a"))
        self.assertEqual({event for event in world.events()[-200:]}, {
            ("again", 1), ("come", 0), ("tick", ("hand", 1)), ("tick", ("hand", 2)), ("tick", ("home", 0))})


if __name__ == "__main__":
    unittest.main()
