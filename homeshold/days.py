"""Days: texts that tell what happened in a world, from which it can be lived again."""

from homeshold.disks import lines, written_lines
from homeshold.errors import NoDay, NoEvent, NoMembers, NoNumber
from homeshold.forms import is_tuple_of
from homeshold.world import World


def day(world):
    """The text of how a world was made, and of all that happened in it."""
    events = tuple([("event", event) for event in world.events()])
    return written_lines((("world",) + world.beginning(),) + events, 0, 0)


def relived(text):
    """The pair of the world to which a day leads, and of how many of its events were done."""
    entries = lines(text)
    if not entries:
        raise NoDay()
    world = _made(entries[0])
    many = 0
    while many + 1 < len(entries) and _is_done(world, entries[many + 1]):
        many += 1
    return world, many


def _made(entry):
    """The world that an entry tells."""
    if not is_tuple_of(3, entry) or entry[0] != "world":
        raise NoDay()
    try:
        return World(entry[1], entry[2])
    except (NoNumber, NoMembers):
        raise NoDay()


def _is_done(world, entry):
    """Does the event that an entry tells; whether it could be done."""
    if not is_tuple_of(2, entry) or entry[0] != "event":
        return False
    try:
        world.event(entry[1])
    except NoEvent:
        return False
    return True
