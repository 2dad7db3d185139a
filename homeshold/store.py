"""Stores: files in a world of homes, without a thought of letters and hands."""

from homeshold.basics import is_count, is_members, is_name, is_text
from homeshold.errors import NoEvent, NoHomeNumber, NoMembers, NoName, NoText, Unlet
from homeshold.world import MOST_SETTLED, World

HAND = 1


class Store:
    """A plain house over a world of its own, with one hand."""

    def __init__(self, homes, members):
        self._world = World(homes, members)
        self._world.event(("hand", HAND))

    def write(self, name, text):
        """Gives a file a text; returns the stamp of its new head."""
        _check_name(name)
        if not is_text(text):
            raise NoText()
        return self._result(("write", name, text))[1]

    def remove(self, name):
        """Removes a file; returns the stamp of its new head."""
        _check_name(name)
        return self._result(("remove", name))[1]

    def copy_to(self, name, other):
        """Gives another file the text of this one, or removes it if this one isn't there; returns its new stamp."""
        _check_name(name)
        _check_name(other)
        return self._result(("copy", name, other))[1]

    def read(self, name):
        """The text of a file, None if it isn't there."""
        _check_name(name)
        return self._result(("read", name))[2]

    def names(self):
        """The ascending tuple of the names of the files that are there."""
        told = self._result(("names",))[1]
        return tuple([name for name in told if self.read(name) is not None])

    def move(self, members):
        """Moves the store on to other members; returns the place behind."""
        if not is_members(members):
            raise NoMembers()
        self._result(("move", members))
        return self._world.hand(HAND).at_place()

    def fall(self, i):
        """Lets a home fall."""
        self._happen_to("fall", i)

    def rise(self, i):
        """Lets a home rise that fell."""
        self._happen_to("rise", i)

    def lose(self, i):
        """Lets a home be gone for ever."""
        self._happen_to("gone", i)

    def world(self):
        """A copy of the world."""
        return self._world.copy()

    def _do(self, event):
        """Lets an event happen, and all that comes of it."""
        try:
            self._world.event(event)
        except NoEvent:
            raise Unlet()
        self._world.settle(MOST_SETTLED)

    def _result(self, op):
        """The result of an operation."""
        self._do(("do", HAND, op))
        return self._world.hand(HAND).result()

    def _happen_to(self, word, i):
        if not is_count(i) or i >= len(self._world.homes()):
            raise NoHomeNumber()
        self._do((word, i))


def _check_name(thing):
    if not is_name(thing):
        raise NoName()
