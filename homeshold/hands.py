"""Hands: they read and write files, lease them, and move the store, by letters to homes."""

from homeshold.basics import chopped, is_name, joined
from homeshold.errors import Busy, NoLetter, NoName, NoOp
from homeshold.letters import is_letter
from homeshold.ops import is_op, names_in
from homeshold.phases import Phase, carried, letters_to, said, unlike_ids
from homeshold.tables import FIRST_HEAD, head_key

# For so many ticks, from the one at which its phase began, a hand trusts a lease.
TRUSTED_TICKS = 2
BALLOT_PHASES = ("prepare", "accept")
MOVING_PHASES = ("seal", "install")
RESULTS = {"read": "read", "lease": "leased", "write": "written", "remove": "removed", "copy": "copied"}


class Work:
    """What a hand knows of the operation that it does."""

    def __init__(self, op):
        self.op = op
        # The dict from ids to pieces.
        self.known = {}
        # The greatest head told, whether all told it, and the homes that did.
        self.top = FIRST_HEAD
        self.alike = True
        self.tellers = ()
        # The head that a copy found, and the new head that is said.
        self.found = None
        self.fresh = None
        # The tick at which the lease phase began last.
        self.since = 0
        self.ballot = (0, 0)
        self.members = ()
        # The place that is sealed and installed: of a move the next one, else that of the hand.
        self.target = None

    def twin(self):
        """A work that is alike, and goes on apart."""
        twin = Work(self.op)
        twin.known = {block_id: self.known[block_id] for block_id in self.known}
        twin.top, twin.alike, twin.tellers = self.top, self.alike, self.tellers
        twin.found, twin.fresh, twin.since = self.found, self.fresh, self.since
        twin.ballot, twin.members, twin.target = self.ballot, self.members, self.target
        return twin

    def name(self):
        """The name that is asked for now: of a copy that found its head the other one."""
        return self.op[1] if self.found is None else self.op[2]

    def makes_head(self):
        """Whether a name is asked for so that it gets a new head."""
        return self.op[0] in ("write", "remove") or self.found is not None

    def head(self):
        """The head that is said."""
        return self.top if self.fresh is None else self.fresh


class Hand:
    """A hand, which does one operation at a time, phase by phase."""

    def __init__(self, hand, epoch, members, ahead):
        self._hand = hand
        self._place = (epoch, members, ahead)
        self._ticks = 0
        # The last talk, the last number of an id, the greatest number of a ballot used or told,
        # and for each name the greatest number of a stamp used.
        self._talk = 0
        self._id = 0
        self._ballot = 0
        self._stamps = {}
        # For each name at which a lease is held: the stamp, the text, and the tick it is held from.
        self._held = {}
        self._ended = None
        self._work = None
        self._phase = None

    def copy(self):
        """A hand that is alike, and goes on apart."""
        epoch, members, ahead = self._place
        twin = Hand(self._hand, epoch, members, ahead)
        twin._ticks, twin._talk, twin._id, twin._ballot = self._ticks, self._talk, self._id, self._ballot
        twin._stamps = dict(self._stamps)
        twin._held = dict(self._held)
        twin._ended = self._ended
        if self._work is not None:
            twin._work = self._work.twin()
            twin._phase = self._phase.twin()
        return twin

    def running(self):
        """The operation that runs, None if none does."""
        return None if self._work is None else self._work.op

    def result(self):
        """The result of the operation that ended last, None if none did."""
        return self._ended

    def at_place(self):
        """The epoch, the members, and those ahead of them."""
        return self._place

    def tick(self):
        """One more tick of the hand's own."""
        self._ticks += 1

    def quick(self, name):
        """The stamp and text of the lease that it holds at the name, None if it can't trust it."""
        if not is_name(name):
            raise NoName()
        if name not in self._held:
            return None
        stamp, text, since = self._held[name]
        return (stamp, text) if self._ticks - since <= TRUSTED_TICKS else None

    def begin(self, op):
        """Begins an operation; returns the tuple of the letters that are written."""
        if not is_op(op):
            raise NoOp()
        if self._work is not None:
            raise Busy()
        self._work = Work(op)
        for name in names_in(op):
            self._held.pop(name, None)
        return self._help() if op[0] == "carry" else self._go_on()

    def again(self):
        """The letters of the phase once more, or those of what has to come ahead of it."""
        phase = self._phase
        if phase is None:
            return ()
        if phase.beaten:
            return self._prepare()
        if phase.lagging and self._place[2] != ():
            return self._help()
        if phase.word == "get":
            return self._go_on()
        return phase.letters(self._hand)

    def take(self, letter):
        """Reads a letter; returns the tuple of the letters that are written."""
        if not is_letter(letter) or letter[0] != ("hand", self._hand):
            raise NoLetter()
        _, by, talk, word, rest = letter
        phase = self._phase
        if phase is None or talk != phase.talk or by[1] not in phase.written:
            return ()
        if word == "moved":
            return self._take_moved(rest)
        if word == "behind":
            phase.lagging = phase.word not in MOVING_PHASES
            return ()
        if phase.word == "get":
            return self._take_piece(word, rest)
        if phase.word == "say" and word == "lacks":
            return self._say_to(by[1], rest[3])
        if phase.word == "seal" and word == "stood":
            return self._install(rest[2], rest[3])
        if phase.word in BALLOT_PHASES and word == "beaten":
            return self._take_beaten(rest[1])
        if not phase.hear(by[1], word, rest) or not phase.is_over():
            return ()
        return self._end_phase()

    def _take_moved(self, rest):
        _, newer, members, ahead = rest
        epoch, own, _ = self._place
        if newer <= epoch:
            return ()
        moves = self._work.op[0] == "move"
        if moves and self._phase.word in BALLOT_PHASES and newer == epoch + 1:
            return self._seal((newer, members, own), own)
        self._place = (newer, members, ahead)
        if moves:
            return self._end(("moved", newer, members))
        return self._help()

    def _take_piece(self, word, rest):
        work = self._work
        if word == "block":
            work.known[rest[1]] = rest[2]
            return () if self._unknown() else self._end_get()
        if word == "none" and rest[1] not in work.known:
            return self._go_on()
        return ()

    def _take_beaten(self, ballot):
        self._ballot = max(self._ballot, ballot[0])
        if ballot > self._work.ballot:
            self._phase.beaten = True
        return ()

    def _begin_phase(self, word, written, lot):
        self._talk += 1
        self._phase = Phase(word, self._talk, written, lot)
        return self._phase.letters(self._hand)

    def _to_members(self, word, rest):
        """Begins a phase that writes one letter to each member."""
        members = self._place[1]
        return self._begin_phase(word, {home: ((word, rest),) for home in members}, members)

    def _go_on(self):
        """Begins what the operation does at this place, or goes on with it behind a help."""
        work = self._work
        word = work.op[0]
        epoch = self._place[0]
        if word == "carry":
            return self._end(("carried", epoch))
        if word == "move":
            return self._prepare()
        if word == "names":
            return self._to_members("list", (epoch,))
        if word == "free":
            return self._to_members("free", (epoch, work.name()))
        if word == "lease":
            work.since = self._ticks
            return self._to_members("lease", (epoch, work.name()))
        if work.fresh is not None:
            return self._say()
        return self._to_members("ask", (epoch, work.name()))

    def _end_phase(self):
        phase = self._phase
        told = [phase.told[home] for home in phase.told]
        if phase.word in ("ask", "lease"):
            return self._end_ask()
        if phase.word == "say":
            return self._end_say()
        if phase.word == "list":
            return self._end(("names", tuple(sorted(set([name for _, names in told for name in names])))))
        if phase.word == "free":
            return self._end(("freed",))
        if phase.word == "prepare":
            return self._accept(told)
        if phase.word == "accept":
            epoch, members, _ = self._place
            return self._seal((epoch + 1, self._work.members, members), members)
        if phase.word == "seal":
            heads, blocks = carried(told)
            return self._install(heads, blocks)
        return self._end_install()

    def _end(self, result):
        self._ended = result
        self._work = None
        self._phase = None
        return ()

    def _end_ask(self):
        work = self._work
        told = self._phase.told
        heads = {home: told[home][2:] for home in told}
        work.top = max([heads[home] for home in heads], key=head_key)
        work.tellers = tuple([home for home in heads if heads[home] == work.top])
        work.alike = len(work.tellers) == len(heads)
        return self._say_fresh() if work.makes_head() else self._get()

    def _unknown(self):
        """The ids of the top's row whose pieces aren't known."""
        work = self._work
        return [block_id for block_id in unlike_ids(work.top[1]) if block_id not in work.known]

    def _get(self):
        ids = self._unknown()
        if not ids:
            return self._end_get()
        written = tuple([("get", (self._place[0], block_id)) for block_id in ids])
        return self._begin_phase("get", {home: written for home in self._work.tellers}, ())

    def _end_get(self):
        return self._end_finding() if self._work.alike else self._say()

    def _end_finding(self):
        work = self._work
        stamp, row = work.top
        if work.op[0] == "copy":
            work.found = work.top
            return self._go_on()
        text = None if row is None else joined(tuple([work.known[block_id] for block_id in row]))
        if work.op[0] == "lease":
            self._held[work.name()] = (stamp, text, work.since)
        return self._end((RESULTS[work.op[0]], stamp, text))

    def _say_fresh(self):
        """Makes a new head above all that were told and all that this hand made, and says it."""
        work = self._work
        name = work.name()
        number = max(work.top[0][0], self._stamps.get(name, 0)) + 1
        self._stamps[name] = number
        work.fresh = ((number, self._hand), self._fresh_row())
        return self._say()

    def _fresh_row(self):
        work = self._work
        if work.op[0] == "remove":
            return None
        if work.op[0] == "copy":
            return work.found[1]
        row = []
        for piece in chopped(work.op[2]):
            self._id += 1
            row.append((self._hand, self._id))
            work.known[(self._hand, self._id)] = piece
        return tuple(row)

    def _said(self, ids):
        work = self._work
        return said(self._place[0], work.name(), work.head(), ids, work.known)

    def _say(self):
        members = self._place[1]
        written = self._said(unlike_ids(self._work.head()[1]))
        return self._begin_phase("say", {home: written for home in members}, members)

    def _say_to(self, home, lacking):
        """The letters to a home that lacks blocks of the head that is said."""
        row = self._work.head()[1] or ()
        written = self._said([block_id for block_id in lacking if block_id in row])
        return tuple(letters_to(home, self._hand, self._phase.talk, written))

    def _end_say(self):
        work = self._work
        if work.fresh is None:
            return self._end_finding()
        return self._end((RESULTS[work.op[0]], work.fresh[0]))

    def _prepare(self):
        self._ballot += 1
        self._work.ballot = (self._ballot, self._hand)
        return self._to_members("prepare", (self._place[0], self._work.ballot))

    def _accept(self, told):
        work = self._work
        votes = [voted for _, _, voted in told if voted is not None]
        work.members = max(votes)[1] if votes else work.op[1]
        return self._to_members("accept", (self._place[0], work.ballot, work.members))

    def _help(self):
        """Seals the epoch ahead of the place, and installs the place, if there are members ahead."""
        _, members, ahead = self._place
        if ahead == ():
            return self._go_on()
        return self._seal(self._place, ahead + members)

    def _seal(self, target, homes):
        self._work.target = target
        epoch, members, ahead = target
        return self._begin_phase("seal", {home: (("seal", (epoch - 1, members)),) for home in homes}, ahead)

    def _install(self, heads, blocks):
        target = self._work.target
        members = target[1]
        written = (("install", target + (heads, blocks)),)
        return self._begin_phase("install", {home: written for home in members}, members)

    def _end_install(self):
        target = self._work.target
        if target == self._place:
            return self._go_on()
        self._place = target
        return self._end(("moved", target[0], target[1]))
