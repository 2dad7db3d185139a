"""Worlds: homes, hands and the letters between them, to which all kinds of events happen in any order."""

from homeshold.answers import answered
from homeshold.basics import MOST_HOMES, is_count, is_hand, is_home, is_members
from homeshold.epochs import Epochs, is_left_behind
from homeshold.errors import NoEvent, NoHand, NoHomeNumber, NoMembers, NoNumber
from homeshold.events import is_event
from homeshold.hands import Hand
from homeshold.mending import begin_mending
from homeshold.stations import DOWN, GONE, UP, Station
from homeshold.tables import AHEAD, EPOCH, MEMBERS

MOST_SETTLED = 20000
# So often a home may tick while some living hand doesn't.
MOST_TICKS = 2
# Events whose first part is a hand that lives, or an index of a letter in the bag.
OF_HANDS = ("do", "again", "die", "quick")
OF_LETTERS = ("come", "double", "lose", "cut")
# What a home has to be so that this happens to it.
OF_HOMES = {"fall": "up", "rise": "down", "collect": "up", "compact": "up", "mend": "up"}


class World:
    """Homes that keep their tables on disks, hands, a bag of letters, and what happened so far."""

    def __init__(self, homes, members):
        if not is_count(homes) or not 1 <= homes <= MOST_HOMES:
            raise NoNumber()
        if not is_members(members) or members[-1] >= homes:
            raise NoMembers()
        self._made = (homes, members)
        self._stations = [Station() for _ in range(homes)]
        self._epochs = Epochs()
        self._bag = []
        # The living hands, and all that ever came.
        self._living = {}
        self._came = {}
        # How often each home ticked, and how often it had when each hand ticked last, or came.
        self._ticks = [0] * homes
        self._seen = {}
        self._events = []
        self._history = []
        self._moments = []
        for i in members:
            self._do(i, ("install", 0, members, (), (), ()))

    def copy(self):
        """A world that is alike, and goes on apart."""
        homes, members = self._made
        twin = World(homes, members)
        twin._stations = [station.copy() for station in self._stations]
        twin._epochs = self._epochs.copy()
        twin._bag = list(self._bag)
        twin._living = {h: self._living[h].copy() for h in self._living}
        twin._came = dict(self._came)
        twin._ticks = list(self._ticks)
        twin._seen = dict(self._seen)
        twin._events = list(self._events)
        twin._history = list(self._history)
        twin._moments = list(self._moments)
        return twin

    def beginning(self):
        """How many homes, and which members of the first epoch, the world was made with."""
        return self._made

    def bag(self):
        """The list of the letters that are on their way."""
        return list(self._bag)

    def history(self):
        """The list of what hands began, ended, and told at once."""
        return list(self._history)

    def moments(self):
        """For each item of the history the index of the event at which it came."""
        return list(self._moments)

    def events(self):
        """The list of the events so far."""
        return list(self._events)

    def _is_home(self, i):
        return is_home(i) and i < len(self._stations)

    def table(self, i):
        """The table of a home, as its disk tells it if it is down or gone."""
        if not self._is_home(i):
            raise NoHomeNumber()
        return self._stations[i].table()

    def disk(self, i):
        """A copy of the disk of a home."""
        if not self._is_home(i):
            raise NoHomeNumber()
        return self._stations[i].disk()

    def homes(self):
        """For each home whether it is "up", "down" or "gone"."""
        return [station.state() for station in self._stations]

    def ended(self):
        """The place that is ended last."""
        return self._epochs.ended(self._known())

    def _known(self):
        """The epochs of the tables of all homes."""
        return [station.table()[EPOCH] for station in self._stations]

    def hands(self):
        """The ascending tuple of the living hands."""
        return tuple(sorted(self._living))

    def hand(self, h):
        """A copy of a living hand."""
        if not is_hand(h) or h not in self._living:
            raise NoHand()
        return self._living[h].copy()

    def event(self, event):
        """Lets an event happen."""
        if not is_event(event) or not self._can(event[0], event[1:]):
            raise NoEvent()
        word, parts = event[0], event[1:]
        if word in OF_HANDS or word == "hand":
            self._of_hand(word, parts)
        elif word in OF_LETTERS:
            self._of_letter(word, parts)
        elif word == "tick":
            self._tick(parts[0])
        else:
            self._of_home(word, parts)
        self._events.append(event)

    def _can(self, word, parts):
        """Whether such an event is possible and let."""
        first = parts[0]
        if word == "hand":
            return first not in self._came
        if word in OF_HANDS:
            return first in self._living and (word != "do" or self._can_do(first, parts[1]))
        if word in OF_LETTERS:
            return first < len(self._bag) and (word != "cut" or self._can_read(self._bag[first][0]))
        if word == "tick":
            return self._can_tick(first)
        if not self._is_home(first):
            return False
        if word == "gone":
            return self._can_go(first)
        if self._stations[first].state() != OF_HOMES[word]:
            return False
        return word != "mend" or self._is_home(parts[1]) and parts[1] != first

    def _can_do(self, h, op):
        if self._living[h].running() is not None:
            return False
        if op[0] != "move":
            return True
        return all([self._is_home(i) for i in op[1]]) and not is_left_behind(op[1], self._with_state(GONE))

    def _can_read(self, to):
        """Whether this is a home that is up."""
        return to[0] == "home" and self._stations[to[1]].state() == UP

    def _can_tick(self, who):
        kind, number = who
        if kind == "hand":
            return number in self._living
        if not self._is_home(number) or self._stations[number].state() != UP:
            return False
        return all([self._ticks[number] - self._seen[h][number] < MOST_TICKS for h in self._living])

    def _with_state(self, state):
        """The list of the homes that are up, down or gone."""
        return [i for i, station in enumerate(self._stations) if station.state() == state]

    def _can_go(self, i):
        gone = self._with_state(GONE)
        epochs = [self._living[h].at_place()[0] for h in self._living]
        return i not in gone and self._epochs.lets_lose(i, self._known(), gone, epochs)

    def _tell(self, item):
        self._history.append(item)
        self._moments.append(len(self._events))

    def _tell_end(self, h, op):
        """Tells that an operation that ran, None if none did, ended if it did."""
        hand = self._living[h]
        if op is not None and hand.running() is None:
            self._tell(("end", h, op, hand.result()))

    def _of_hand(self, word, parts):
        h = parts[0]
        if word == "hand":
            epoch, members, ahead = self.ended()
            self._living[h] = Hand(h, epoch, members, ahead)
            self._came[h] = True
            self._seen[h] = tuple(self._ticks)
        elif word == "die":
            del self._living[h]
        elif word == "quick":
            self._tell(("quick", h, parts[1], self._living[h].quick(parts[1])))
        elif word == "again":
            self._bag += self._living[h].again()
        else:
            self._begin(h, parts[1])

    def _begin(self, h, op):
        hand = self._living[h]
        if op[0] == "move":
            self._epochs.begin_move(hand.at_place()[0], op[1])
        self._tell(("begin", h, op))
        self._bag += hand.begin(op)
        self._tell_end(h, op)

    def _of_letter(self, word, parts):
        k = parts[0]
        letter = self._bag[k] if word == "double" else self._bag.pop(k)
        kind, number = letter[0]
        if word == "cut":
            station = self._stations[number]
            station.cut(answered(number, station.table(), letter)[0], parts[1])
            self._see(number)
        elif word != "lose" and kind == "hand":
            self._read_by_hand(number, letter)
        elif word != "lose" and self._can_read(letter[0]):
            self._read_by_home(number, letter)

    def _read_by_hand(self, h, letter):
        if h in self._living:
            op = self._living[h].running()
            self._bag += self._living[h].take(letter)
            self._tell_end(h, op)

    def _read_by_home(self, i, letter):
        deeds, letters = answered(i, self.table(i), letter)
        for deed in deeds:
            self._do(i, deed)
        self._bag += letters

    def _do(self, i, deed):
        self._stations[i].do(deed)
        self._see(i)

    def _see(self, i):
        """Keeps the epoch of a home's table in mind."""
        table = self.table(i)
        if table[EPOCH] >= 0:
            self._epochs.see(table[EPOCH], table[MEMBERS], table[AHEAD])

    def _of_home(self, word, parts):
        i = parts[0]
        station = self._stations[i]
        if word == "fall":
            station.stop(DOWN)
        elif word == "gone":
            station.stop(GONE)
        elif word == "rise":
            station.rise()
        elif word == "collect":
            station.do(("collect",))
        elif word == "compact":
            station.compact(parts[1])
        else:
            self._bag += begin_mending(i, station.table(), parts[1])

    def _tick(self, who):
        kind, number = who
        if kind == "home":
            self._do(number, ("tick",))
            self._ticks[number] += 1
        else:
            self._living[number].tick()
            self._seen[number] = tuple(self._ticks)

    def settle(self, most):
        """Lets all that is on its way come, until no operation runs or so many events are done; returns how many."""
        if not is_count(most) or most > MOST_SETTLED:
            raise NoNumber()
        first = len(self._events)
        while self._goes_on(first + most):
            self._round(first + most)
        return len(self._events) - first

    def _runs(self, h):
        return self._living[h].running() is not None

    def _goes_on(self, end):
        """Whether some operation runs and fewer events than this are done."""
        return len(self._events) < end and any([self._runs(h) for h in self._living])

    def _step(self, event, end):
        if self._goes_on(end):
            self.event(event)

    def _empty(self, end):
        """Lets the letters of the bag come until there are none."""
        while self._bag and self._goes_on(end):
            self.event(("come", 0))

    def _round(self, end):
        for i in self._with_state(DOWN):
            self._step(("rise", i), end)
        self._empty(end)
        for h in self.hands():
            if self._runs(h):
                self._step(("again", h), end)
                self._empty(end)
        for h in self.hands():
            self._step(("tick", ("hand", h)), end)
        for i in self._with_state(UP):
            self._step(("tick", ("home", i)), end)
