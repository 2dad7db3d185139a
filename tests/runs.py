"""Runs of worlds for the tests: what is seen of a world, a model of it by the words of the document, drawn events, a judge."""

import itertools

from homeshold.answers import answer
from homeshold.basics import few, majority
from homeshold.calls import calls_of
from homeshold.disks import Disk, kept, noted, opened
from homeshold.errors import NoEvent
from homeshold.hands import Hand
from homeshold.histories import is_history, is_right_order, right_order
from homeshold.mending import begin_mending
from homeshold.stations import table_of
from homeshold.tables import bare_table, behind, head_of, is_closed
from homeshold.watch import complaints, meaning, sure
from homeshold.world import World
from town import look

EPOCH = 0
FIRST = (0, 0)


def areas(disk):
    return disk.area(0), disk.area(1)


def seen(world):
    """All that a world tells of itself, apart from the lists that it told."""
    homes = range(len(world.homes()))
    return (
        world.beginning(), list(world.bag()), list(world.history()), list(world.moments()), list(world.events()), list(world.homes()),
        world.ended(), world.hands(), [world.table(i) for i in homes], [areas(world.disk(i)) for i in homes],
        [look(world.hand(h)) for h in world.hands()],
    )


def index_of(world, word, to=None):
    """The index of the first letter of the bag with this word, and to this home or hand if one is told."""
    return [k for k, letter in enumerate(world.bag()) if letter[3] == word and to in (None, letter[0])][0]


def done(world, *events):
    for event in events:
        world.event(event)
    return world


def world_of(*hands, homes=3, members=(0, 1, 2)):
    """A world to which these hands came."""
    return done(World(homes, members), *[("hand", h) for h in hands])


def emptied(world):
    """The world when all letters came."""
    while world.bag():
        world.event(("come", 0))
    return world


def ended_op(world, h, op, most=2000):
    """The result of an operation that a hand does, when all is settled."""
    world.event(("do", h, op))
    world.settle(most)
    return world.hand(h).result()


def stamped(op):
    """The name whose stamp the result of an operation tells, None if it tells none."""
    return {"read": op[1:2], "lease": op[1:2], "write": op[1:2], "remove": op[1:2], "copy": op[2:3]}.get(op[0], (None,))[0]


class Model:
    """A world told as plainly as can be: whatever can be found from the events so far is found from them."""

    def __init__(self, homes, members):
        self.made = (homes, members)
        self.disks = [Disk() for _ in range(homes)]
        self.tables = [bare_table() for _ in range(homes)]
        self.states = ["up"] * homes
        self.bag, self.events, self.history, self.moments = [], [], [], []
        self.hands, self.dead = {}, []
        # All members of epochs that some table has had, and all that moves named, with the epochs of these.
        self.lots, self.moves = [], []
        for disk in self.disks:
            opened(disk)
        for i in members:
            self.note(i, ("install", 0, members, (), (), ()))

    def note(self, i, deed):
        noted(self.disks[i], deed, None)
        self.tables[i] = behind(self.tables[i], deed)
        self.see(i)

    def see(self, i):
        epoch, members, ahead = self.tables[i][:3]
        if epoch >= 0 and (epoch, members, ahead) not in self.lots:
            self.lots.append((epoch, members, ahead))

    def stop(self, i, state):
        self.states[i] = state
        self.tables[i] = table_of(self.disks[i].copy())
        self.see(i)

    def keeping(self, members, epoch, away=()):
        return [i for i in members if self.tables[i][EPOCH] >= epoch and i not in away]

    def ended(self):
        return max([lot for lot in self.lots if len(self.keeping(lot[1], lot[0])) * 2 > len(lot[1])])

    def gone(self):
        return [i for i, state in enumerate(self.states) if state == "gone"]

    def lets_gone(self, i):
        least = min([self.ended()[0]] + [self.hands[h].at_place()[0] for h in self.hands])
        away = self.gone() + [i]
        living = [(epoch, members) for epoch, members, _ in self.lots if epoch >= least]
        named = [members for epoch, members in self.moves if epoch >= least]
        for members in [members for _, members in living] + named:
            if len([j for j in members if j in away]) > few(members):
                return False
        for epoch, members in living:
            if i in members and self.tables[i][EPOCH] >= epoch:
                if len(self.keeping(members, epoch, away)) < majority(members):
                    return False
        return True

    def lets_tick(self, i):
        for h in self.hands:
            since = max([k for k, event in enumerate(self.events) if event in (("hand", h), ("tick", ("hand", h)))])
            if self.events[since:].count(("tick", ("home", i))) >= 2:
                return False
        return True

    def lets(self, event):
        """Whether an event, which has the form of one, is possible and let."""
        word, first = event[:2]
        homes = range(len(self.states))
        if word == "hand":
            return first not in self.hands and first not in self.dead
        if word in ("again", "die", "quick"):
            return first in self.hands
        if word == "do":
            if first not in self.hands or self.hands[first].running() is not None:
                return False
            op = event[2]
            if op[0] != "move":
                return True
            return all([i in homes for i in op[1]]) and len([i for i in op[1] if i in self.gone()]) <= few(op[1])
        if word in ("come", "double", "lose"):
            return first < len(self.bag)
        if word == "cut":
            if first >= len(self.bag):
                return False
            kind, number = self.bag[first][0]
            return kind == "home" and self.states[number] == "up"
        if word == "tick":
            kind, number = first
            if kind == "hand":
                return number in self.hands
            return number in homes and self.states[number] == "up" and self.lets_tick(number)
        if first not in homes:
            return False
        if word == "gone":
            return self.states[first] != "gone" and self.lets_gone(first)
        if word == "rise":
            return self.states[first] == "down"
        if word == "mend" and (event[2] not in homes or event[2] == first):
            return False
        return self.states[first] == "up"

    def tell(self, item):
        self.history.append(item)
        self.moments.append(len(self.events))

    def by_hand(self, h, step):
        """What a hand does, and what it leads to: the operation that ran, or just began, may end by it."""
        hand = self.hands[h]
        op = hand.running()
        if isinstance(step, tuple) and step[0] == "do":
            op = step[2]
            self.tell(("begin", h, op))
            self.bag += hand.begin(op)
        else:
            self.bag += hand.again() if step is None else hand.take(step)
        if op is not None and hand.running() is None:
            self.tell(("end", h, op, hand.result()))

    def read(self, letter):
        kind, number = letter[0]
        if kind == "hand":
            if number in self.hands:
                self.by_hand(number, letter)
        elif self.states[number] == "up":
            deeds, letters = answer(number, self.tables[number], letter)
            for deed in deeds:
                self.note(number, deed)
            self.bag += letters

    def do(self, event):
        word, first = event[:2]
        if word == "hand":
            self.hands[first] = Hand(first, *self.ended())
        elif word == "do":
            if event[2][0] == "move":
                self.moves.append((self.hands[first].at_place()[0], event[2][1]))
            self.by_hand(first, event)
        elif word == "again":
            self.by_hand(first, None)
        elif word == "die":
            del self.hands[first]
            self.dead.append(first)
        elif word == "quick":
            self.tell(("quick", first, event[2], self.hands[first].quick(event[2])))
        elif word == "come":
            self.read(self.bag.pop(first))
        elif word == "double":
            self.read(self.bag[first])
        elif word == "lose":
            self.bag.pop(first)
        else:
            self.of_home(event)
        self.events.append(event)

    def of_home(self, event):
        word, first = event[:2]
        if word == "cut":
            letter = self.bag.pop(first)
            i = letter[0][1]
            left = event[2]
            for deed in answer(i, self.tables[i], letter)[0]:
                left -= noted(self.disks[i], deed, left)
            self.stop(i, "down")
        elif word == "fall":
            self.stop(first, "down")
        elif word == "gone":
            self.stop(first, "gone")
        elif word == "rise":
            self.states[first] = "up"
            self.tables[first] = table_of(self.disks[first])
            self.note(first, ("rise",))
        elif word == "tick":
            if first[0] == "home":
                self.note(first[1], ("tick",))
            else:
                self.hands[first[1]].tick()
        elif word == "collect":
            self.note(first, ("collect",))
        elif word == "compact":
            kept(self.disks[first], (("stand", self.tables[first]),), event[2])
            if event[2] is not None:
                self.stop(first, "down")
        else:
            self.bag += begin_mending(first, self.tables[first], event[2])

    def seen(self):
        """What a world that went the same way tells of itself."""
        hands = tuple(sorted(self.hands))
        return (
            self.made, self.bag, self.history, self.moments, self.events, self.states, self.ended(), hands, self.tables,
            [areas(disk) for disk in self.disks], [look(self.hands[h]) for h in hands],
        )


# How often each kind of events is drawn: all kinds, many moves, hands that write at once, homes that are lost.
MIXES = (
    {"do": 8, "again": 4, "come": 60, "double": 2, "lose": 2, "cut": 2, "fall": 1, "rise": 2, "gone": 1, "home": 6, "hand": 5,
     "collect": 2, "compact": 1, "mend": 2, "quick": 4, "new": 1, "die": 1},
    {"do": 10, "again": 8, "come": 80, "double": 4, "lose": 3, "cut": 3, "fall": 1, "rise": 2, "gone": 2, "home": 9, "hand": 6,
     "collect": 2, "compact": 1, "mend": 2, "quick": 3, "new": 1, "die": 1},
    {"do": 20, "again": 9, "come": 70, "double": 9, "lose": 2, "home": 8, "hand": 8, "mend": 3, "quick": 9, "collect": 3},
    {"do": 9, "again": 6, "come": 60, "cut": 6, "fall": 5, "rise": 9, "gone": 6, "home": 6, "hand": 4, "compact": 6, "collect": 3,
     "new": 1, "die": 1, "quick": 1},
)
OPS = (
    {"read": 5, "write": 6, "remove": 1, "copy": 2, "names": 1, "lease": 2, "free": 1, "move": 2, "carry": 1},
    {"read": 3, "write": 4, "remove": 1, "copy": 1, "lease": 1, "move": 8, "carry": 1},
    {"read": 5, "write": 9, "remove": 2, "copy": 3, "lease": 5, "free": 1},
    {"read": 5, "write": 6, "remove": 1, "copy": 2, "move": 3},
)


def drawn_op(draw, homes, shares, names):
    word = draw.choices(list(shares), list(shares.values()))[0]
    if word in ("names", "carry"):
        return (word,)
    if word == "move":
        return (word, tuple(sorted(draw.sample(range(homes), draw.randrange(1, min(homes, 5) + 1)))))
    op = (word, draw.choice(names))
    if word == "write":
        return op + ("".join(draw.choices("xyz ~'", k=draw.choice((0, 3, 8, 9, 17)))),)
    return op + (draw.choice(names),) if word == "copy" else op


def drawn_event(draw, world, mix, names):
    """An event, which the world may let or not."""
    homes, hands, bag = len(world.homes()), world.hands(), world.bag()
    word = draw.choices(list(MIXES[mix]), list(MIXES[mix].values()))[0]
    if len(hands) < 2 or word == "new" and len(hands) < 5:
        return ("hand", draw.randrange(1, 30))
    i, h = draw.randrange(homes), draw.choice(hands)
    if word in ("come", "double", "lose", "cut") and bag:
        k = draw.choice((0, 0, draw.randrange(len(bag))))
        return (word, k) if word != "cut" else (word, k, draw.choice((0, draw.randrange(100), draw.randrange(250), 10 ** 9)))
    if word in ("home", "hand"):
        return ("tick", (word, i if word == "home" else h))
    if word in ("fall", "rise", "gone", "collect"):
        return (word, i)
    if word == "compact":
        return (word, i, draw.choice((None, draw.randrange(400))))
    if word == "mend":
        return (word, i, draw.randrange(homes))
    if word == "do":
        idle = [one for one in hands if world.hand(one).running() is None]
        return (word, draw.choice(idle or hands), drawn_op(draw, homes, OPS[mix], names))
    if word == "quick":
        return (word, h, draw.choice(names))
    return (word if word in ("again", "die") else "again", h)


def drawn_members(draw, homes):
    return tuple(sorted(draw.sample(range(homes), draw.randrange(1, min(homes, 5) + 1))))


def is_done(world, event):
    """Whether the world lets an event; it does it then."""
    try:
        world.event(event)
    except NoEvent:
        return False
    return True


def waits_for_ever(world, h):
    """Whether a hand waits for homes that are gone: by point 12 again doesn't write to those that count already.

    A home may have told that it is sealed, and have been installed then by another hand, so that the members ahead
    aren't needed any more and may be lost; but this hand still needs a majority of them.
    """
    letters = world.hand(h).again()
    return bool(letters) and all([letter[3] == "seal" and world.homes()[letter[0][1]] == "gone" for letter in letters])


class Judge:
    """Watches a world by the words of points 13, 17, 18, 19 and 20."""

    def __init__(self, case):
        self.case = case
        self.many = 0
        # The greatest stamp that ended at each name, what it was when each running operation began, and what
        # each stamp of a name means.
        self.ended, self.begun, self.texts, self.fresh = {}, {}, {}, {}
        self.tables = []

    def means(self, name, stamp, text):
        if stamp == FIRST:
            self.case.assertIsNone(text)
        self.case.assertEqual(self.texts.setdefault((name, stamp), text), text)

    def read(self, world):
        """Reads what is new in the history."""
        history = world.history()
        for item in history[self.many:]:
            if item[0] == "begin":
                self.begun[item[1]] = dict(self.ended)
            elif item[0] == "quick":
                self.told(item[2], item[3], self.ended)
            else:
                self.read_end(item[2], item[3], self.begun.pop(item[1]))
        self.many = len(history)

    def told(self, name, told, ended):
        if told is not None:
            self.case.assertGreaterEqual(told[0], ended.get(name, FIRST))
            self.means(name, told[0], told[1])

    def read_end(self, op, result, ended):
        name = stamped(op)
        if name is None:
            return
        stamp = result[1]
        if op[0] in ("read", "lease"):
            self.told(name, result[1:], ended)
        else:
            self.case.assertNotIn((name, stamp), self.fresh)
            self.fresh[name, stamp] = op
            self.case.assertGreater(stamp, ended.get(name, FIRST))
            if op[0] != "copy":
                self.means(name, stamp, op[2] if op[0] == "write" else None)
        self.ended[name] = max(self.ended.get(name, FIRST), stamp)

    def look(self, world):
        """Judges what holds at each moment."""
        epoch, members, _ = world.ended()
        tables = [world.table(i) for i in range(len(world.homes()))]
        self.case.assertTrue(all([is_closed(table) for table in tables]))
        for i, (elder, newer) in enumerate(zip(self.tables, tables)):
            # Epochs only rise, and within an epoch stamps only rise.
            self.case.assertGreaterEqual(newer[EPOCH], elder[EPOCH])
            if newer[EPOCH] == elder[EPOCH]:
                for name, stamp, _ in elder[4]:
                    self.case.assertGreaterEqual(head_of(newer, name)[0], stamp)
            if newer != elder:
                self.case.assertEqual(table_of(world.disk(i)), newer)
        self.tables = tables
        gone = [i for i in members if world.homes()[i] == "gone"]
        for away in itertools.combinations(members, few(members)):
            if set(gone) <= set(away):
                kept_by = [tables[i] for i in members if i not in away and tables[i][EPOCH] >= epoch]
                for name in self.ended:
                    self.case.assertTrue([1 for table in kept_by if head_of(table, name)[0] >= self.ended[name]])
        self.case.assertEqual(complaints(world), ())
        found = meaning(world)
        for name in found:
            self.means(name, found[name][0], found[name][1])
        for name in self.ended:
            if self.ended[name] != FIRST:
                self.case.assertGreaterEqual(found[name][0], self.ended[name])
            if sure(world, name) is not None:
                self.case.assertGreaterEqual(sure(world, name), self.ended[name])

    def end(self, world):
        """Judges what holds of a run as a whole: settle ends what runs, and some order explains what was told."""
        self.order(world)
        world.settle(20000)
        for h in world.hands():
            if world.hand(h).running() is not None:
                self.case.assertTrue(waits_for_ever(world, h))
        self.read(world)
        self.look(world)
        self.order(world)

    def order(self, world):
        calls = calls_of(world)
        self.case.assertTrue(is_history(calls))
        order = right_order(calls)
        self.case.assertIsNotNone(order)
        self.case.assertTrue(is_right_order(calls, order))
