"""[17]: worlds, and what each event does to them."""

import copy
import unittest

from homeshold.answers import answer
from homeshold.disks import Disk, kept, noted, opened
from homeshold.errors import HomeError, NoEvent, NoHand, NoHomeNumber, NoMembers, NoNumber
from homeshold.hands import Hand
from homeshold.mending import begin_mending
from homeshold.stations import table_of
from homeshold.tables import behind
from homeshold.world import World
from runs import areas, done, ended_op, index_of, seen
from samples import BARE, NO_HANDS, NO_INTEGERS, NO_MEMBERS, STRANGE, in_lists, nested
from town import look

THREE = (0, 1, 2)
TEXT = "words of a file"


def installed(members, epoch=0, ahead=()):
    return behind(BARE, ("install", epoch, members, ahead, (), ()))


def disk_of(*deeds):
    disk = Disk()
    opened(disk)
    for deed in deeds:
        noted(disk, deed, None)
    return disk


def letters_of(h, homes, talk, word, *rest):
    return [(("home", home), ("hand", h), talk, word, rest) for home in homes]


def world_of_hand(h=7, homes=3, members=THREE):
    return done(World(homes, members), ("hand", h))


def world_with_a_lack():
    """A world in which home 2 has nothing of what was written."""
    world = done(world_of_hand(), ("do", 7, ("write", "a", TEXT)))
    while "head" not in [letter[3] for letter in world.bag()]:
        done(world, ("come", 0))
    for word in ("put", "put", "head"):
        done(world, ("lose", index_of(world, word, ("home", 2))))
    while world.bag():
        done(world, ("come", 0))
    return world


class WorldCase(unittest.TestCase):
    def check_changed(self, world, event, **changes):
        """The event changes just what is told; what isn't told stays as it was."""
        names = ("beginning", "bag", "history", "moments", "events", "homes", "ended", "hands", "tables", "disks", "looks")
        wanted = dict(zip(names, seen(world)))
        moments, events = wanted["moments"], wanted["events"]
        wanted["events"] = events + [event]
        for name in changes:
            if name in ("table", "disk"):
                at, part = changes[name]
                wanted[name + "s"][at] = areas(part) if name == "disk" else part
            else:
                wanted[name] = changes[name]
        wanted["moments"] = moments + [len(events)] * (len(wanted["history"]) - len(moments))
        self.assertIsNone(world.event(event))
        found = dict(zip(names, seen(world)))
        for name in names:
            self.assertEqual(found[name], wanted[name], name)
        return world

    def check_refused(self, error, world, function, *arguments):
        before = (seen(world), repr(arguments))
        for _ in range(2):
            with self.assertRaises(HomeError) as caught:
                function(*arguments)
            self.assertIs(type(caught.exception), error)
        self.assertEqual((seen(world), repr(arguments)), before)


class TestBeginning(WorldCase):
    def test_worlds_of_each_size(self):
        for homes in range(1, 10):
            for members in {(0,), (homes - 1,), tuple(range(homes)), tuple(range(0, homes, 2)), tuple(range(homes // 2, homes))}:
                world = World(homes, members)
                self.assertEqual(world.beginning(), (homes, members))
                self.assertEqual(world.homes(), ["up"] * homes)
                self.assertEqual(world.ended(), (0, members, ()))
                self.assertEqual((world.bag(), world.history(), world.moments(), world.events()), ([], [], [], []))
                self.assertEqual(world.hands(), ())
                for i in range(homes):
                    deeds = (("install", 0, members, (), (), ()),) if i in members else ()
                    self.assertEqual(world.table(i), installed(members) if deeds else BARE)
                    self.assertEqual(areas(world.disk(i)), areas(disk_of(*deeds)))

    def test_no_number(self):
        for homes in NO_INTEGERS + (0, -1, 10, 11, 10 ** 29, None, True):
            for members in ((0,), (), None, (9,), [0]):
                self.check_refused(NoNumber, World(1, (0,)), World, homes, members)

    def test_no_members(self):
        for homes in (1, 3, 9):
            strange = tuple([thing for thing in STRANGE if thing != (0,)])
            for members in NO_MEMBERS + strange + ((homes,), (0, homes), tuple(range(homes + 1)), [0], (homes - 1, homes)):
                self.check_refused(NoMembers, World(1, (0,)), World, homes, members)

    def test_equal_worlds(self):
        self.assertEqual(seen(World(3, (0, 2))), seen(World(3, (0, 2))))


class TestHands(WorldCase):
    def test_come_at_the_place_that_is_ended(self):
        world = World(4, (1, 3))
        for h in (1, 99, 50):
            hand = Hand(h, 0, (1, 3), ())
            self.check_changed(world, ("hand", h), hands=tuple(sorted(world.hands() + (h,))), looks=[look(hand)] * (len(world.hands()) + 1))
            self.assertEqual(world.hand(h).at_place(), (0, (1, 3), ()))

    def test_come_behind_a_move(self):
        world = world_of_hand(homes=5)
        self.assertEqual(ended_op(world, 7, ("move", (1, 3, 4))), ("moved", 1, (1, 3, 4)))
        done(world, ("hand", 2))
        self.assertEqual(world.hand(2).at_place(), (1, (1, 3, 4), THREE))
        self.assertEqual(world.ended(), (1, (1, 3, 4), THREE))

    def test_do(self):
        world = world_of_hand()
        op = ("read", "a")
        hand = world.hand(7)
        hand.begin(op)
        self.check_changed(world, ("do", 7, op), bag=letters_of(7, THREE, 1, "ask", 0, "a"), history=[("begin", 7, op)],
                           looks=[look(hand)])
        self.assertEqual(world.moments(), [1])

    def test_an_operation_that_ends_at_once(self):
        world = world_of_hand()
        hand = world.hand(7)
        hand.begin(("carry",))
        self.check_changed(world, ("do", 7, ("carry",)), history=[("begin", 7, ("carry",)), ("end", 7, ("carry",), ("carried", 0))],
                           looks=[look(hand)])
        self.assertEqual(world.moments(), [1, 1])

    def test_each_operation(self):
        for op in (("read", "a"), ("write", "a", TEXT), ("remove", "a"), ("copy", "a", "b"), ("names",), ("lease", "a"), ("free", "a"),
                   ("move", (0, 1)), ("carry",)):
            world = world_of_hand()
            hand = world.hand(7)
            sent = hand.begin(op)
            done(world, ("do", 7, op))
            self.assertEqual(world.bag(), list(sent))
            self.assertEqual(look(world.hand(7)), look(hand))
            world.settle(1000)
            self.assertEqual(world.history()[-1], ("end", 7, op, world.hand(7).result()))
            self.assertEqual(world.moments(), [1, 1 if op == ("carry",) else len(world.events()) - 1])

    def test_again(self):
        world = done(world_of_hand(), ("do", 7, ("read", "a")), ("come", 1))
        asks = letters_of(7, THREE, 1, "ask", 0, "a")
        told = (("hand", 7), ("home", 1), 1, "told", (0, "a", (0, 0), None))
        self.assertEqual(world.bag(), [asks[0], asks[2], told])
        self.check_changed(world, ("again", 7), bag=[asks[0], asks[2], told] + asks)
        done(world, ("come", 2))
        self.check_changed(world, ("again", 7), bag=[asks[0], asks[2]] + asks + [asks[0], asks[2]])

    def test_again_of_an_idle_hand(self):
        self.check_changed(world_of_hand(), ("again", 7))

    def test_again_that_begins_anew(self):
        world = world_of_hand()
        ended_op(world, 7, ("write", "a", TEXT))
        done(world, ("do", 7, ("read", "a")))
        while "get" not in [letter[3] for letter in world.bag()]:
            done(world, ("come", 0))
        hand = world.hand(7)
        sent = hand.again()
        self.assertEqual({letter[3] for letter in sent}, {"ask"})
        self.check_changed(world, ("again", 7), bag=world.bag() + list(sent), looks=[look(hand)])

    def test_die(self):
        world = done(world_of_hand(), ("hand", 3), ("do", 7, ("read", "a")), ("do", 3, ("names",)))
        hand = world.hand(3)
        self.check_changed(world, ("die", 7), hands=(3,), looks=[look(hand)])
        self.check_refused(NoHand, world, world.hand, 7)
        # Its operation runs no more.
        while world.bag():
            done(world, ("come", 0))
        self.assertEqual([item[:2] for item in world.history()], [("begin", 7), ("begin", 3), ("end", 3)])
        self.assertEqual(world.settle(100), 0)

    def test_quick(self):
        world = world_of_hand()
        self.check_changed(world, ("quick", 7, "a"), history=[("quick", 7, "a", None)])
        ended_op(world, 7, ("write", "a", TEXT))
        self.assertEqual(ended_op(world, 7, ("lease", "a")), ("leased", (1, 7), TEXT))
        for _ in range(3):
            self.check_changed(world, ("quick", 7, "a"), history=world.history() + [("quick", 7, "a", ((1, 7), TEXT))])
            self.check_changed(world, ("quick", 7, "b"), history=world.history() + [("quick", 7, "b", None)])
            hand = world.hand(7)
            hand.tick()
            self.check_changed(world, ("tick", ("hand", 7)), looks=[look(hand)])
        self.check_changed(world, ("quick", 7, "a"), history=world.history() + [("quick", 7, "a", None)])

    def test_history_of_a_write(self):
        world = world_of_hand()
        result = ended_op(world, 7, ("write", "a", TEXT))
        self.assertEqual(result, ("written", (1, 7)))
        self.assertEqual(world.history(), [("begin", 7, ("write", "a", TEXT)), ("end", 7, ("write", "a", TEXT), result)])
        self.assertEqual(world.moments(), [1, len(world.events()) - 1])
        ended_op(world, 7, ("read", "a"))
        self.assertEqual(world.history()[2:], [("begin", 7, ("read", "a")), ("end", 7, ("read", "a"), ("read", (1, 7), TEXT))])
        self.assertEqual(len(world.moments()), 4)


class TestLetters(WorldCase):
    def world(self):
        """A world in whose bag there are three asks."""
        return done(world_of_hand(), ("do", 7, ("read", "a")))

    def test_come(self):
        for k in range(3):
            world = self.world()
            bag = world.bag()
            told = (("hand", 7), ("home", k), 1, "told", (0, "a", (0, 0), None))
            self.check_changed(world, ("come", k), bag=bag[:k] + bag[k + 1:] + [told])

    def test_double(self):
        for k in range(3):
            world = self.world()
            bag = world.bag()
            told = (("hand", 7), ("home", k), 1, "told", (0, "a", (0, 0), None))
            self.check_changed(world, ("double", k), bag=bag + [told])
            self.check_changed(world, ("double", k), bag=bag + [told, told])

    def test_lose(self):
        for k in range(3):
            world = self.world()
            bag = world.bag()
            self.check_changed(world, ("lose", k), bag=bag[:k] + bag[k + 1:])

    def test_to_a_hand(self):
        for word in ("come", "double"):
            world = done(self.world(), ("come", 0), ("come", 0), ("come", 0))
            told = world.bag()
            hand = world.hand(7)
            self.assertEqual(hand.take(told[2]), ())
            rest = told[:2] if word == "come" else told
            self.check_changed(world, (word, 2), bag=rest, looks=[look(hand)])
            hand.take(told[0])
            end = ("end", 7, ("read", "a"), ("read", (0, 0), None))
            self.assertEqual(hand.result(), end[3])
            self.check_changed(world, (word, 0), bag=rest[1:] if word == "come" else rest, looks=[look(hand)],
                               history=world.history() + [end])
            self.assertEqual(world.moments(), [1, 6])
            # What comes behind the end changes nothing.
            self.check_changed(world, (word, 0), bag=world.bag()[1:] if word == "come" else rest)

    def test_deeds_are_noted_ahead_of_the_answer(self):
        world = done(world_of_hand(), ("do", 7, ("write", "a", TEXT)))
        for _ in range(5):
            done(world, ("come", 0))
        k = index_of(world, "put")
        letter = world.bag()[k]
        i = letter[0][1]
        deeds, letters = answer(i, world.table(i), letter)
        self.assertEqual(len(deeds), 1)
        disk = world.disk(i)
        noted(disk, deeds[0], None)
        bag = world.bag()
        self.check_changed(world, ("come", k), bag=bag[:k] + bag[k + 1:] + list(letters), table=(i, behind(world.table(i), deeds[0])),
                           disk=(i, disk))

    def test_the_order_of_letters(self):
        """All letters that an event leads to go to the end of the bag, in order."""
        world = done(world_of_hand(), ("do", 7, ("write", "a", TEXT)), ("come", 0), ("come", 0), ("come", 0))
        self.assertEqual([letter[3] for letter in world.bag()], ["told"] * 3)
        done(world, ("come", 2), ("come", 0))
        puts = [(home, word) for home in THREE for word in ("put", "put", "head")]
        self.assertEqual([(letter[0][1], letter[3]) for letter in world.bag()], [(7, "told")] + puts)
        self.assertEqual([letter[4][1] for letter in world.bag()[1:3]], [(7, 1), (7, 2)])
        done(world, ("come", 4))
        self.assertEqual([letter[3] for letter in world.bag()][-2:], ["head", "have"])

    def test_nobody_reads(self):
        for word in ("come", "double"):
            for fate in ("fall", "gone"):
                world = done(self.world(), (fate, 1))
                bag = world.bag()
                self.check_changed(world, (word, 1), bag=bag[:1] + bag[2:] if word == "come" else bag)
            world = done(self.world(), ("come", 0), ("hand", 2), ("die", 7))
            bag = world.bag()
            self.check_changed(world, (word, 2), bag=bag[:2] if word == "come" else bag)
            # Homes answer all the same.
            self.check_changed(world, (word, 0), bag=(bag[1:2] if word == "come" else bag) + [
                (("hand", 7), ("home", 1), 1, "told", (0, "a", (0, 0), None))])

    def test_lose_whoever_it_is_for(self):
        world = done(self.world(), ("come", 0), ("fall", 1), ("gone", 2), ("die", 7))
        for _ in range(3):
            self.check_changed(world, ("lose", 0), bag=world.bag()[1:])


class TestCut(WorldCase):
    def check_cut(self, world, k):
        """The letter at this place cut behind each number of signs, and then the rise of the home."""
        letter = world.bag()[k]
        i = letter[0][1]
        deeds = answer(i, world.table(i), letter)[0]
        whole = world.disk(i)
        for deed in deeds:
            noted(whole, deed, None)
        at = 0 if whole.area(0) != world.disk(i).area(0) else 1
        elder = world.disk(i).area(at)
        line = whole.area(at)[len(elder):]
        table = world.table(i)
        for deed in deeds:
            table = behind(table, deed)
        for n in list(range(len(line) + 3)) + [10 ** 12, 10 ** 29]:
            twin = world.copy()
            disk = world.disk(i)
            disk.append(at, line[:n], None)
            bag, homes = world.bag(), world.homes()
            homes[i] = "down"
            known = table if n >= len(line) else world.table(i)
            ended = (world.ended() if n < len(line) or not deeds or deeds[0][0] != "install" else twin_ended(world, k))
            self.check_changed(twin, ("cut", k, n), bag=bag[:k] + bag[k + 1:], disk=(i, disk), homes=homes, table=(i, known), ended=ended)
            opened(disk)
            noted(disk, ("rise",), None)
            homes[i] = "up"
            self.check_changed(twin, ("rise", i), homes=homes, table=(i, behind(known, ("rise",))), disk=(i, disk))

    def test_an_answer_without_a_deed(self):
        world = done(world_of_hand(), ("do", 7, ("read", "a")))
        self.check_cut(world, 0)
        self.check_cut(world, 2)

    def test_each_word_with_a_deed(self):
        found = {}
        world = world_of_hand(homes=4)
        for op in (("write", "a", TEXT), ("lease", "a"), ("free", "a"), ("move", (1, 2, 3))):
            done(world, ("do", 7, op))
            while world.hand(7).running() is not None:
                if not world.bag():
                    done(world, ("again", 7), ("tick", ("hand", 7)))
                    done(world, *[("tick", ("home", i)) for i in range(4)])
                word = world.bag()[0][3]
                if world.bag()[0][0][0] == "home" and word not in found:
                    self.check_cut(world, 0)
                    found[word] = True
                done(world, ("come", 0))
        for word in ("ask", "put", "head", "lease", "free", "prepare", "accept", "seal", "install"):
            self.assertIn(word, found)

    def test_behind_a_compacting(self):
        for most in (None, 7):
            world = done(world_of_hand(), ("do", 7, ("write", "a", "x")))
            while "put" not in [letter[3] for letter in world.bag()]:
                done(world, ("come", 0))
            done(world, ("compact", 0, most))
            if most is not None:
                done(world, ("rise", 0))
            self.check_cut(world, index_of(world, "put", ("home", 0)))

    def test_a_letter_of_another_home(self):
        world = done(world_with_a_lack(), ("mend", 2, 0))
        while "heads" not in [letter[3] for letter in world.bag()]:
            done(world, ("come", 0))
        self.assertEqual(world.table(2)[4], ())
        self.check_cut(world, index_of(world, "heads"))


def twin_ended(world, k):
    """The place that is ended last when a letter has come."""
    return done(world.copy(), ("come", k)).ended()


class TestHomes(WorldCase):
    def test_fall_and_rise(self):
        world = World(3, (0, 2))
        for i in range(3):
            homes = ["up"] * 3
            homes[i] = "down"
            self.check_changed(world, ("fall", i), homes=homes)
            disk = world.disk(i)
            noted(disk, ("rise",), None)
            self.check_changed(world, ("rise", i), homes=["up"] * 3, disk=(i, disk))

    def test_leases_of_one_who_rises(self):
        world = world_of_hand()
        ended_op(world, 7, ("lease", "a"))
        done(world, ("tick", ("home", 0)), ("tick", ("home", 0)))
        self.assertEqual(world.table(0)[6], (("a", 7, 1, 8),))
        done(world, ("fall", 0), ("rise", 0))
        self.assertEqual(world.table(0)[6], (("a", 7, 1, 10),))

    def test_gone(self):
        world = World(3, THREE)
        self.check_changed(world, ("gone", 1), homes=["up", "gone", "up"])
        world = done(World(3, THREE), ("fall", 2))
        self.check_changed(world, ("gone", 2), homes=["up", "up", "gone"])

    def test_gone_with_a_torn_line(self):
        world = done(world_of_hand(), ("do", 7, ("lease", "a")), ("cut", 1, 9))
        torn = areas(world.disk(1))
        self.assertEqual(areas(disk_of(("install", 0, THREE, (), (), ())))[0], torn[0][:-9])
        self.check_changed(world, ("gone", 1), homes=["up", "gone", "up"])
        self.assertEqual(areas(world.disk(1)), torn)
        self.assertEqual(world.table(1), installed(THREE))

    def test_ticks(self):
        world = World(2, (1,))
        for i in (0, 1, 1, 0, 1):
            disk = world.disk(i)
            noted(disk, ("tick",), None)
            self.check_changed(world, ("tick", ("home", i)), table=(i, behind(world.table(i), ("tick",))), disk=(i, disk))
        self.assertEqual([world.table(i)[3] for i in (0, 1)], [2, 3])

    def test_tick_of_a_hand(self):
        world = world_of_hand()
        ended_op(world, 7, ("lease", "a"))
        for k in range(4):
            self.assertEqual(world.hand(7).quick("a"), ((0, 0), None) if k < 3 else None)
            hand = world.hand(7)
            hand.tick()
            self.check_changed(world, ("tick", ("hand", 7)), looks=[look(hand)])

    def test_collect(self):
        world = world_of_hand(members=(0,), homes=2)
        for text in (TEXT, "other"):
            ended_op(world, 7, ("write", "a", text))
        self.assertEqual([block[0] for block in world.table(0)[5]], [(7, 1), (7, 2), (7, 3)])
        disk = world.disk(0)
        noted(disk, ("collect",), None)
        self.check_changed(world, ("collect", 0), table=(0, behind(world.table(0), ("collect",))), disk=(0, disk))
        self.assertEqual(world.table(0)[5], (((7, 3), "other"),))
        disk = world.disk(1)
        noted(disk, ("collect",), None)
        self.check_changed(world, ("collect", 1), disk=(1, disk))

    def test_compact(self):
        world = world_of_hand()
        ended_op(world, 7, ("write", "a", TEXT))
        for _ in range(3):
            for i in range(3):
                disk = world.disk(i)
                kept(disk, (("stand", world.table(i)),), None)
                self.check_changed(world, ("compact", i, None), disk=(i, disk))
                self.assertEqual(table_of(world.disk(i)), world.table(i))
                disk = world.disk(i)
                noted(disk, ("tick",), None)
                done(world, ("tick", ("hand", 7)))
                self.check_changed(world, ("tick", ("home", i)), table=(i, behind(world.table(i), ("tick",))), disk=(i, disk))

    def test_compact_cut(self):
        world = world_of_hand()
        ended_op(world, 7, ("write", "a", TEXT))
        done(world, ("compact", 1, None))
        for i in (0, 1):
            size = kept(world.disk(i), (("stand", world.table(i)),), None)
            homes = world.homes()
            homes[i] = "down"
            for n in list(range(size + 2)) + [10 ** 29]:
                twin = world.copy()
                disk = world.disk(i)
                self.assertEqual(kept(disk, (("stand", world.table(i)),), n), min(n, size))
                self.check_changed(twin, ("compact", i, n), homes=homes, disk=(i, disk))
                opened(disk)
                noted(disk, ("rise",), None)
                self.check_changed(twin, ("rise", i), homes=world.homes(), disk=(i, disk))

    def test_mend(self):
        for fate in ("up", "down", "gone"):
            world = World(4, (0, 1, 2))
            if fate != "up":
                done(world, ("fall" if fate == "down" else "gone", 1))
            sent = begin_mending(0, world.table(0), 1)
            self.assertEqual(len(sent), 1)
            self.check_changed(world, ("mend", 0, 1), bag=list(sent))
            self.check_changed(world, ("mend", 2, 0), bag=list(sent + begin_mending(2, world.table(2), 0)))
            # One that keeps nothing writes nothing, but may be asked.
            self.check_changed(world, ("mend", 3, 0))
            self.check_changed(world, ("mend", 0, 3), bag=world.bag() + list(begin_mending(0, world.table(0), 3)))

    def test_a_mending(self):
        world = done(world_with_a_lack(), ("mend", 2, 1))
        words = []
        while world.bag():
            words.append(world.bag()[0][3])
            done(world, ("come", 0))
        self.assertEqual([word for word in words if word in ("sums", "values", "roots", "heads")], ["sums", "values", "roots", "heads"])
        self.assertEqual(world.table(2)[4:6], world.table(1)[4:6])
        self.assertEqual(table_of(world.disk(2)), world.table(2))


class TestEnded(WorldCase):
    def test_install_by_install(self):
        """An epoch is ended as soon as a majority of its members has it, be they up, down or gone."""
        for members in ((1,), (1, 3), (1, 2, 3), (0, 1, 2, 3), (0, 1, 2, 3, 4)):
            world = done(world_of_hand(homes=5), ("do", 7, ("move", members)))
            while "install" not in [letter[3] for letter in world.bag()]:
                done(world, ("come", 0))
            for many, i in enumerate(members[::-1]):
                ended = many > len(members) // 2
                self.assertEqual(world.ended(), (1, members, THREE) if ended else (0, THREE, ()))
                twin = done(world.copy(), ("hand", 50))
                self.assertEqual(twin.hand(50).at_place(), world.ended())
                done(world, ("come", index_of(world, "install", ("home", i))), ("fall", i))
            self.assertEqual(world.ended(), (1, members, THREE))
            if len(members) > 2:
                done(world, ("gone", members[0]))
                self.assertEqual(world.ended(), (1, members, THREE))

    def test_a_torn_install(self):
        world = done(world_of_hand(homes=4), ("do", 7, ("move", (3,))))
        while "install" not in [letter[3] for letter in world.bag()]:
            done(world, ("come", 0))
        k = index_of(world, "install")
        size = len(done(world.copy(), ("come", k)).disk(3).area(0)) - len(world.disk(3).area(0))
        for n, ended in ((0, 0), (size - 1, 0), (size, 1), (size + 1, 1)):
            twin = done(world.copy(), ("cut", k, n))
            self.assertEqual(twin.ended(), ((0, THREE, ()), (1, (3,), THREE))[ended])
            done(twin, ("rise", 3))
            self.assertEqual(twin.ended()[0], ended)

    def test_members_that_went_further_count(self):
        world = world_of_hand(homes=4)
        for epoch, members in ((1, (0, 3)), (2, (3,)), (3, (3, 0, 1)[::-1])):
            members = tuple(sorted(members))
            self.assertEqual(ended_op(world, 7, ("move", members)), ("moved", epoch, members))
            self.assertEqual(world.ended(), world.hand(7).at_place())
        self.assertEqual(world.ended(), (3, (0, 1, 3), (3,)))


class TestTold(WorldCase):
    def world(self):
        world = world_of_hand(homes=4)
        ended_op(world, 7, ("write", "a", TEXT))
        while world.bag():
            done(world, ("come", 0))
        return done(world, ("do", 7, ("read", "a")), ("again", 7), ("come", 0), ("fall", 1), ("gone", 2), ("quick", 7, "a"))

    def test_no_home_number(self):
        world = self.world()
        for i in NO_INTEGERS + (-1, 4, 5, 8, 9, 10 ** 29, None, True, False):
            self.check_refused(NoHomeNumber, world, world.table, i)
            self.check_refused(NoHomeNumber, world, world.disk, i)

    def test_no_hand(self):
        world = done(self.world(), ("hand", 5), ("die", 5))
        for h in NO_HANDS + STRANGE + (1, 5, 6, 8, 99, True, None):
            self.check_refused(NoHand, world, world.hand, h)
        self.assertIsInstance(world.hand(7), Hand)
        done(world, ("hand", 1))
        self.check_refused(NoHand, world, world.hand, True)

    def test_kinds(self):
        world = self.world()
        for told, kind in ((world.bag(), list), (world.history(), list), (world.events(), list), (world.moments(), list),
                           (world.homes(), list), (world.ended(), tuple), (world.hands(), tuple), (world.beginning(), tuple),
                           (world.table(0), tuple), (world.disk(0), Disk), (world.hand(7), Hand), (world.copy(), World)):
            self.assertIs(type(told), kind)
        self.assertEqual([type(part) for part in world.moments()], [int] * len(world.history()))

    def test_what_is_told_is_the_askers(self):
        world = self.world()
        before = seen(world)
        for told in (world.bag(), world.history(), world.events(), world.moments(), world.homes()):
            told.append("x")
            told[0] = "y"
            told.clear()
        for i in range(4):
            world.disk(i).clear(0)
            world.disk(i).append(1, "junk", None)
        hand = world.hand(7)
        hand.tick()
        hand.take(world.bag()[index_of(world, "told")])
        world.copy().event(("die", 7))
        self.assertEqual(seen(world), before)

    def test_later_events_change_nothing_in_it(self):
        world = self.world()
        told = (world.bag(), world.history(), world.events(), world.moments(), world.homes(), world.hands())
        disks, hand = [world.disk(i) for i in range(4)], world.hand(7)
        before = copy.deepcopy((told, [areas(disk) for disk in disks], look(hand)))
        done(world, ("hand", 8), ("rise", 1), ("tick", ("home", 0)), ("tick", ("hand", 7)), ("die", 7), ("compact", 0, None))
        self.assertEqual((told, [areas(disk) for disk in disks], look(hand)), before)

    def test_what_was_handed_in(self):
        world = self.world()
        for event in (["hand", 9], ["come", 0], ("do", 7, ["read", "a"]), ("do", 7, ("move", [0])), in_lists(0, 30), nested(0, 30)):
            before = copy.deepcopy(event)
            self.check_refused(NoEvent, world, world.event, event)
            self.assertEqual(event, before)

    def test_copies(self):
        steps = (
            ("come", 0), ("lose", 0), ("again", 7), ("die", 7), ("tick", ("hand", 7)), ("tick", ("home", 0)), ("fall", 0), ("rise", 1),
            ("collect", 0), ("compact", 0, 30), ("compact", 0, None), ("mend", 0, 3), ("quick", 7, "a"), ("hand", 8), ("cut", 2, 10),
            ("double", 2), ("gone", 3),
        )
        for step in steps:
            world = self.world()
            before = seen(world)
            twin = world.copy()
            self.assertEqual(seen(twin), before)
            done(twin, step)
            self.assertEqual(seen(world), before)
            self.assertNotEqual(seen(twin), before)
            other = twin.copy()
            done(world, step)
            self.assertEqual(seen(world), seen(twin))
            other.settle(500)
            self.assertEqual(seen(world), seen(twin))

    def test_copies_know_what_was_let(self):
        world = done(world_of_hand(), ("tick", ("home", 0)), ("tick", ("home", 0)))
        twin = world.copy()
        self.check_refused(NoEvent, twin, twin.event, ("tick", ("home", 0)))
        done(twin, ("tick", ("hand", 7)), ("tick", ("home", 0)))
        self.check_refused(NoEvent, world, world.event, ("tick", ("home", 0)))
        done(twin, ("die", 7))
        self.check_refused(NoEvent, twin, twin.event, ("hand", 7))
        twin = done(world, ("die", 7)).copy()
        self.check_refused(NoEvent, twin, twin.event, ("hand", 7))
        done(twin, ("hand", 8))
        self.assertEqual(world.hands(), ())
        self.check_let(world, ("hand", 8))

    def check_let(self, world, event):
        self.assertIsNone(world.copy().event(event))

    def test_copies_know_which_members_were_named(self):
        world = world_of_hand(homes=9)
        twin = done(world.copy(), ("do", 7, ("move", (6, 7, 8))), ("gone", 6))
        other = twin.copy()
        self.check_refused(NoEvent, other, other.event, ("gone", 7))
        self.check_let(done(world, ("gone", 6)), ("gone", 7))
        done(world.copy(), ("do", 7, ("move", (0, 6, 8))))
        self.check_let(world, ("gone", 8))

    def test_copies_know_the_epochs(self):
        world = world_of_hand(homes=5)
        twin = world.copy()
        ended_op(twin, 7, ("move", (2, 3, 4)))
        self.assertEqual(world.ended(), (0, THREE, ()))
        self.assertEqual(twin.copy().ended(), (1, (2, 3, 4), THREE))
        done(world, ("gone", 3))
        self.check_let(world, ("gone", 4))


if __name__ == "__main__":
    unittest.main()
