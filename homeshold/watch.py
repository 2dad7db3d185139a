"""Watching a world: what its names mean, what is sure, and what is wrong."""

from homeshold.basics import is_name, joined, majority
from homeshold.errors import NoName
from homeshold.ops import named_at_end
from homeshold.stations import GONE
from homeshold.tables import AHEAD, BLOCKS, EPOCH, HEADS, MEMBERS, NEXT, head_at, head_key, is_closed


def _keepers(world):
    """The ascending list of the homes that keep the place that is ended last."""
    epoch, members, _ = world.ended()
    states = world.homes()
    return [home for home in members if states[home] != GONE and world.table(home)[EPOCH] >= epoch]


def _greatest(tables):
    """For each name at which one of these tables has a head the pair of the greatest one and of the table."""
    found = {}
    for table in tables:
        for name, stamp, row in table[HEADS]:
            if name not in found or head_key(found[name][0]) < head_key((stamp, row)):
                found[name] = ((stamp, row), table)
    return found


def meaning(world):
    """The dict from each name that a keeper knows to its greatest stamp and its text."""
    found = _greatest([world.table(home) for home in _keepers(world)])
    return {name: _meant(found[name][0], found[name][1]) for name in sorted(found)}


def _meant(head, table):
    stamp, row = head
    if row is None:
        return (stamp, None)
    pieces = dict(table[BLOCKS])
    return (stamp, joined(tuple([pieces[block_id] for block_id in row])))


def sure(world, name):
    """The stamp that a majority surely knows of a name, whichever majority it is, None if there are too few keepers."""
    if not is_name(name):
        raise NoName()
    stamps = sorted([head_at(world.table(home), name)[0] for home in _keepers(world)])
    many = majority(world.ended()[1])
    return stamps[many - 1] if len(stamps) >= many else None


def lacking_homes(world):
    """The dict from each name that some keepers know by an elder stamp to these keepers."""
    tables = {home: world.table(home) for home in _keepers(world)}
    found = _greatest([tables[home] for home in tables])
    lacking = {}
    for name in sorted(found):
        stamp = found[name][0][0]
        homes = tuple([home for home in tables if head_at(tables[home], name)[0] < stamp])
        if homes:
            lacking[name] = homes
    return lacking


def complaints(world):
    """The ascending tuple of what is wrong in a world."""
    tables = [world.table(home) for home in range(len(world.homes()))]
    found = [("open", i) for i, table in enumerate(tables) if not is_closed(table)]
    found += [("early", name) for name in _early_names(world)]
    for i, table in enumerate(tables):
        for j, other in enumerate(tables):
            if i < j and _are_torn(table, other):
                found.append(("epoch", i, j))
            if table[EPOCH] >= 0 and other[EPOCH] == table[EPOCH] + 1 and not _follows(table, other):
                found.append(("next", i, j))
    return tuple(sorted(found))


def _early_names(world):
    """The names at which an operation ended with a stamp that isn't sure."""
    ended = {}
    for item in world.history():
        if item[0] == "end":
            name = named_at_end(item[2])
            if name is not None:
                ended[name] = max(item[3][1], ended.get(name, (0, 0)))
    found = []
    for name in ended:
        least = sure(world, name)
        if least is not None and ended[name] > least:
            found.append(name)
    return found


def _are_torn(table, other):
    """Whether two tables tell unlike things of one epoch."""
    if table[EPOCH] < 0 or table[EPOCH] != other[EPOCH]:
        return False
    if table[MEMBERS] != other[MEMBERS] or table[AHEAD] != other[AHEAD]:
        return True
    return table[NEXT] is not None and other[NEXT] is not None and table[NEXT] != other[NEXT]


def _follows(table, other):
    """Whether a table of the next epoch is what this one leads to."""
    return other[AHEAD] == table[MEMBERS] and table[NEXT] in (None, other[MEMBERS])
