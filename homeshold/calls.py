"""What was done in a world, told as a history of reads and writes."""

from homeshold.histories import READ, WRITE
from homeshold.ops import named_at_end
from homeshold.tables import FIRST_STAMP

READING = ("read", "lease")


def calls_of(world):
    """The history of the reads and writes of a world."""
    calls = []
    # For each hand that does an operation the moment of its begin.
    begun = {}
    running = {}
    for item, at in zip(world.history(), world.moments()):
        h = item[1]
        if item[0] == "begin":
            begun[h] = 2 * at
            running[h] = item[2]
        elif item[0] == "quick" and item[3] is not None:
            calls.append((READ, item[2], _told(item[3][0]), 2 * at, 2 * at + 1))
        elif item[0] == "end":
            del running[h]
            if named_at_end(item[2]) is not None:
                calls.append(_ended_call(item[2], item[3][1], begun[h], 2 * at + 1))
    for h in running:
        calls += _unended_calls(h, running[h], begun[h], calls)
    return tuple(sorted(calls, key=lambda call: call[3]))


def _told(stamp):
    """What a read of this stamp tells."""
    return None if stamp == FIRST_STAMP else stamp


def _ended_call(op, stamp, begin, end):
    if op[0] in READING:
        return (READ, op[1], _told(stamp), begin, end)
    return (WRITE, named_at_end(op), stamp, begin, end)


def _unended_calls(h, op, begin, calls):
    """The list of the call of an operation that never ended, without one if no read tells its stamp."""
    name = named_at_end(op)
    if name is None or op[0] in READING:
        return []
    written = [call[2] for call in calls if call[0] == WRITE and call[1] == name]
    # A hand does one operation at a time: of its stamps just that of this one may have no call as yet.
    told = [call[2] for call in calls if call[0] == READ and call[1] == name and call[2] is not None]
    own = [stamp for stamp in told if stamp[1] == h and stamp not in written]
    return [(WRITE, name, own[0], begin, None)] if own else []
