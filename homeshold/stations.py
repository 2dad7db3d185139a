"""Stations: homes with the disks on which they keep their tables."""

from homeshold.disks import Disk, kept, noted, opened
from homeshold.errors import NoDisk, NoItem
from homeshold.tables import bare_table, done, is_deed, lets

UP = "up"
DOWN = "down"
GONE = "gone"


def table_of(disk):
    """The table of which a disk tells the deeds; the disk is mended."""
    if not isinstance(disk, Disk):
        raise NoDisk()
    # A disk with an item that isn't let stays as it is: its items are read off a copy first.
    table = _behind_items(opened(disk.copy()))
    opened(disk)
    return table


def _behind_items(items):
    """The table behind these items, one behind another."""
    table = bare_table()
    for index, item in enumerate(items):
        if not is_deed(item) or not lets(table, item):
            raise NoItem(index)
        table = done(table, item)
    return table


class Station:
    """A home of a world: its disk, the table that this tells, and whether it is up, down or gone."""

    def __init__(self):
        self._disk = Disk()
        opened(self._disk)
        self._table = bare_table()
        self._state = UP

    def copy(self):
        """A station that is alike, and goes on apart."""
        twin = Station()
        twin._disk = self._disk.copy()
        twin._table = self._table
        twin._state = self._state
        return twin

    def state(self):
        """Whether it is "up", "down" or "gone"."""
        return self._state

    def table(self):
        """What it knows; as its disk tells it if it is down or gone."""
        return self._table

    def disk(self):
        """A copy of its disk."""
        return self._disk.copy()

    def do(self, deed):
        """Notes a deed, which its table lets, and does it."""
        noted(self._disk, deed, None)
        self._table = done(self._table, deed)

    def compact(self, most):
        """Writes its table in the place of all deeds; if most isn't None only so many signs, and it falls."""
        kept(self._disk, (("stand", self._table),), most)
        if most is not None:
            self.stop(DOWN)

    def cut(self, deeds, most):
        """Falls amid noting these deeds, when so many signs are written."""
        left = most
        for deed in deeds:
            left -= noted(self._disk, deed, left)
        self.stop(DOWN)

    def stop(self, state):
        """Is down or gone from here on."""
        self._state = state
        # What is torn stays on the disk until it is opened.
        self._table = table_of(self._disk.copy())

    def rise(self):
        """Is up again, with the table that its disk tells."""
        self._state = UP
        self._table = table_of(self._disk)
        self.do(("rise",))
