"""Phases of operations: what a hand writes to which homes, and which of them count."""

from homeshold.basics import majority
from homeshold.tables import head_key, heads_in_order, led_by

# The answer that counts in each phase; in a phase of get none does.
ANSWERS = {
    "ask": "told", "say": "kept", "list": "names", "lease": "granted", "free": "freed", "prepare": "promised",
    "accept": "voted", "seal": "sealed", "install": "installed",
}


class Phase:
    """One phase: its word, its talk, what it writes to each home, and what it was told."""

    def __init__(self, word, talk, written, lot):
        self.word = word
        self.talk = talk
        # For each home the tuple of pairs of a word and a rest.
        self.written = written
        # The homes that may count.
        self.lot = lot
        # For each home that counts the rest of its first answer that does.
        self.told = {}
        # Whether a home told that it is behind, and a home that a greater ballot was there.
        self.lagging = False
        self.beaten = False

    def twin(self):
        """A phase that is alike, and goes on apart."""
        twin = Phase(self.word, self.talk, self.written, self.lot)
        twin.told = dict(self.told)
        twin.lagging = self.lagging
        twin.beaten = self.beaten
        return twin

    def hear(self, home, word, rest):
        """Lets the home count if this is an answer that counts; whether the home is a new one that does."""
        if self.beaten or home in self.told or home not in self.lot or word != ANSWERS.get(self.word):
            return False
        # The last thing that is written to a home tells the stamp or the ballot that its answer has to bear.
        asked = self.written[home][-1][1]
        if self.word == "say" and rest[2] != asked[2] or self.word in ("prepare", "accept") and rest[1] != asked[1]:
            return False
        self.told[home] = rest
        return True

    def is_over(self):
        """Whether a majority counts."""
        return len(self.told) >= majority(self.lot)

    def letters(self, hand):
        """The letters of the phase to all homes that don't count as yet."""
        found = []
        for home in sorted(self.written):
            if home not in self.told:
                found += letters_to(home, hand, self.talk, self.written[home])
        return tuple(found)


def letters_to(home, hand, talk, written):
    """The list of the letters of a hand to one home."""
    return [(("home", home), ("hand", hand), talk, word, rest) for word, rest in written]


def unlike_ids(row):
    """The ascending tuple of the unlike ids of a row."""
    return tuple(sorted(set(row or ())))


def said(epoch, name, head, ids, known):
    """What is written to a home so that it keeps a head: the pieces of these ids, and the head."""
    puts = [("put", (epoch, block_id, known[block_id])) for block_id in ids]
    return tuple(puts + [("head", (epoch, name) + head)])


def carried(told):
    """The heads and the blocks with which an epoch begins, by the rests of the letters sealed."""
    found = {}
    pieces = {}
    for _, _, heads, blocks in told:
        for name, stamp, row in heads:
            if name not in found or head_key(found[name]) < head_key((stamp, row)):
                found[name] = (stamp, row)
        for block_id, piece in blocks:
            pieces[block_id] = piece
    greatest = heads_in_order(found)
    return greatest, led_by(greatest, tuple(sorted(pieces.items())))
