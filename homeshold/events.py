"""Events of worlds."""

from homeshold.basics import is_count, is_hand, is_home, is_name
from homeshold.letters import is_machine
from homeshold.ops import is_op

EVENTS = {
    "hand": ("hand",), "do": ("hand", "op"), "again": ("hand",), "die": ("hand",), "come": ("index",),
    "double": ("index",), "lose": ("index",), "cut": ("index", "signs"), "fall": ("home",), "rise": ("home",),
    "gone": ("home",), "tick": ("machine",), "collect": ("home",), "compact": ("home", "most"),
    "mend": ("home", "home"), "quick": ("hand", "name"),
}


def is_event(thing):
    """Whether this is an event, whether or not a world lets it."""
    if not isinstance(thing, tuple) or thing == () or not isinstance(thing[0], str) or thing[0] not in EVENTS:
        return False
    kinds = EVENTS[thing[0]]
    if len(thing) != 1 + len(kinds):
        return False
    return all([_is_part(kind, part) for kind, part in zip(kinds, thing[1:])])


def _is_part(kind, thing):
    if kind == "hand":
        return is_hand(thing)
    if kind == "op":
        return is_op(thing)
    if kind == "home":
        return is_home(thing)
    if kind == "machine":
        return is_machine(thing)
    if kind == "name":
        return is_name(thing)
    if kind == "most":
        return thing is None or is_count(thing)
    return is_count(thing)
