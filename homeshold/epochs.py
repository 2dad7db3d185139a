"""Epochs of a world: which of them are ended, and of which lots of members the homes must not be lost."""

from homeshold.basics import few, majority


class Epochs:
    """What was seen of the epochs of a world."""

    def __init__(self):
        # For each epoch that some table has had its place: the epoch, the members, and those ahead.
        self._places = {}
        # For each move that was begun the epoch of the hand's place, and the members that it named.
        self._moves = []

    def copy(self):
        """Epochs that are alike, and go on apart."""
        twin = Epochs()
        twin._places = dict(self._places)
        twin._moves = list(self._moves)
        return twin

    def see(self, epoch, members, ahead):
        """A table of this epoch is there."""
        self._places[epoch] = (epoch, members, ahead)

    def begin_move(self, epoch, members):
        """A move to these members is begun at a place of this epoch."""
        self._moves.append((epoch, members))

    def ended(self, known):
        """The place that is ended last, known being the epochs of the homes' tables."""
        ended = [epoch for epoch in self._places if self._many(epoch, known, ()) >= self._majority(epoch)]
        return self._places[max(ended)]

    def _many(self, epoch, known, away):
        """How many members of an epoch, besides those away, have tables of it or of a later one."""
        members = self._places[epoch][1]
        return len([home for home in members if known[home] >= epoch and home not in away])

    def _majority(self, epoch):
        return majority(self._places[epoch][1])

    def lets_lose(self, home, known, gone, epochs):
        """Whether a home may go, known being the epochs of the homes' tables, gone the homes that went.

        The epochs are those of the places of living hands.
        """
        least = min([self.ended(known)[0]] + epochs)
        away = gone + [home]
        later = [epoch for epoch in self._places if epoch >= least]
        lots = [self._places[epoch][1] for epoch in later]
        lots += [members for epoch, members in self._moves if epoch >= least]
        if any([is_left_behind(members, away) for members in lots]):
            return False
        keeping = [epoch for epoch in later if home in self._places[epoch][1] and known[home] >= epoch]
        return all([self._many(epoch, known, away) >= self._majority(epoch) for epoch in keeping])


def is_left_behind(members, gone):
    """Whether more than few of the members are gone."""
    return len([home for home in members if home in gone]) > few(members)
