"""Operations of hands."""

from homeshold.basics import is_members, is_name, is_text
from homeshold.forms import is_tuple_of

# The operations whose parts behind their word are just so many names.
NAMES = {"read": 1, "remove": 1, "copy": 2, "names": 0, "lease": 1, "free": 1, "carry": 0}
# The operations besides copy whose results tell a stamp of their name.
STAMPED = ("read", "lease", "write", "remove")


def is_op(thing):
    """Whether this is an operation of a hand."""
    if not isinstance(thing, tuple) or thing == () or not isinstance(thing[0], str):
        return False
    if thing[0] == "write":
        return is_tuple_of(3, thing) and is_name(thing[1]) and is_text(thing[2])
    if thing[0] == "move":
        return is_tuple_of(2, thing) and is_members(thing[1])
    if thing[0] not in NAMES or len(thing) != 1 + NAMES[thing[0]]:
        return False
    return all([is_name(name) for name in thing[1:]])


def names_in(op):
    """The names that an operation names."""
    if op[0] == "write":
        return op[1:2]
    if op[0] == "move":
        return ()
    return op[1:]


def named_at_end(op):
    """The name whose stamp the result of an operation tells, None if it tells none."""
    if op[0] == "copy":
        return op[2]
    return op[1] if op[0] in STAMPED else None
