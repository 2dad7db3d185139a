"""Histories of reads and writes, and whether some order of them explains what the reads told."""

from homeshold.basics import is_count, is_integer
from homeshold.errors import NoHistory
from homeshold.forms import is_tuple_of
from homeshold.texts import is_thing

# The places of the parts of a call.
KIND = 0
NAME = 1
TOLD = 2
BEGIN = 3
END = 4
MANY_PARTS = 5

READ = "read"
WRITE = "write"
TOLD_DEPTH = 5


def is_call(thing):
    """Whether this is a call."""
    if not is_tuple_of(MANY_PARTS, thing):
        return False
    kind, name, told, begin, end = thing
    if kind not in (READ, WRITE) or not isinstance(name, str):
        return False
    if not is_thing(told, TOLD_DEPTH) or kind == WRITE and told is None:
        return False
    return is_integer(begin) and (end is None or is_integer(end) and begin < end)


def is_history(thing):
    """Whether this is a history."""
    if not isinstance(thing, tuple) or not all([is_call(item) for item in thing]):
        return False
    moments = [(call[NAME], moment) for call in thing for moment in call[BEGIN:] if moment is not None]
    written = [(call[NAME], call[TOLD]) for call in thing if call[KIND] == WRITE]
    return len(set(moments)) == len(moments) and len(set(written)) == len(written)


def _counts(call):
    """Whether this is a write or an ended read: nothing else matters for an order."""
    return call[KIND] == WRITE or call[END] is not None


def _is_ahead(call, other):
    """Whether a call ended ahead of the begin of another one."""
    return call[END] is not None and call[END] < other[BEGIN]


class Lot:
    """The calls of one name that tell one thing: by their indexes, in the order in which they began."""

    def __init__(self, history, indexes):
        self.indexes = sorted(indexes, key=lambda k: history[k][BEGIN])
        self.last = self.indexes[-1]
        self.last_begin = history[self.last][BEGIN]
        ended = [k for k in indexes if history[k][END] is not None]
        # The call that ended first, None if none did.
        self.first = min(ended, key=lambda k: history[k][END]) if ended else None
        self.first_end = history[self.first][END] if ended else None


class Tale:
    """What a history tells of one name: its lots, and which calls tell None."""

    def __init__(self, history, indexes):
        told = {}
        for k in indexes:
            told.setdefault(history[k][TOLD], []).append(k)
        self.blank = sorted(told.pop(None, []), key=lambda k: history[k][BEGIN])
        self.written = {history[k][TOLD]: k for k in indexes if history[k][KIND] == WRITE}
        lots = [Lot(history, told[thing]) for thing in told]
        # Of a lot that never ended nobody has to know when it was.
        ended = [lot for lot in lots if lot.first is not None]
        # If one of two lots has to be ahead of the other one, but not also behind it, it has the lesser sum.
        self.lots = sorted(ended, key=lambda lot: lot.last_begin + lot.first_end)


def _tales(history):
    """The tales of all names of a history."""
    found = {}
    for k, call in enumerate(history):
        if _counts(call):
            found.setdefault(call[NAME], []).append(k)
    return [Tale(history, found[name]) for name in found]


def _checked(history):
    if not is_history(history):
        raise NoHistory()


def bar(history):
    """Why a history has no right order, None if it has one."""
    _checked(history)
    for tale in _tales(history):
        found = _bar_of(history, tale)
        if found is not None:
            return found
    return None


def _bar_of(history, tale):
    for lot in tale.lots:
        told = history[lot.first][TOLD]
        if told not in tale.written:
            return ("strange", lot.first)
        if _is_ahead(history[lot.first], history[tale.written[told]]):
            return ("early", lot.first)
    return _late(history, tale) or _crossed(tale)


def _late(history, tale):
    if not tale.blank or not tale.lots:
        return None
    read = tale.blank[-1]
    first = min(tale.lots, key=lambda lot: lot.first_end).first
    return ("late", first, read) if _is_ahead(history[first], history[read]) else None


def _crossed(tale):
    latest = None
    for lot in tale.lots:
        # The lots ahead have lesser sums, so if this one has to be ahead of one of them they cross.
        if latest is not None and lot.first_end < latest.last_begin:
            return ("crossed", latest.first, latest.last, lot.last, lot.first)
        if latest is None or latest.last_begin < lot.last_begin:
            latest = lot
    return None


def right_order(history):
    """A right order of a history, None if it has none."""
    if bar(history) is not None:
        return None
    order = []
    for tale in _tales(history):
        order += tale.blank
        for lot in tale.lots:
            write = tale.written[history[lot.last][TOLD]]
            order += [write] + [k for k in lot.indexes if k != write]
    return order


def _is_index(history, thing):
    return is_count(thing) and thing < len(history)


def is_right_order(history, thing):
    """Whether this is a right order of a history."""
    _checked(history)
    if not isinstance(thing, list) or not all([_is_index(history, k) for k in thing]):
        return False
    chosen = {k: True for k in thing}
    if len(chosen) != len(thing) or not all([_counts(history[k]) for k in thing]):
        return False
    if not all([call[END] is None or k in chosen for k, call in enumerate(history)]):
        return False
    return _is_right([history[k] for k in thing])


def _is_right(calls):
    """Whether the calls of each name stand as they were, and each read tells what the last write ahead of it wrote."""
    begun = {}
    written = {}
    for kind, name, told, begin, end in calls:
        latest = begun.get(name, begin)
        if end is not None and end < latest:
            return False
        begun[name] = max(begin, latest)
        if kind == WRITE:
            written[name] = told
        elif written.get(name) != told:
            return False
    return True


def _is_strange(history, calls):
    read = calls[0]
    return read[KIND] == READ and read[TOLD] is not None and _write_of(history, read) is None


def _is_early(history, calls):
    read = calls[0]
    write = _write_of(history, read)
    return read[KIND] == READ and write is not None and _is_ahead(read, write)


def _is_late(history, calls):
    call, read = calls
    return call[TOLD] is not None and read[TOLD] is None and _is_ahead(call, read)


def _is_crossed(history, calls):
    a, b, c, d = calls
    if a[TOLD] != b[TOLD] or c[TOLD] != d[TOLD] or a[TOLD] == c[TOLD] or a[TOLD] is None or c[TOLD] is None:
        return False
    return _is_ahead(a, c) and _is_ahead(d, b)


def _write_of(history, read):
    """The write of what a read tells, None if there is none."""
    for call in history:
        if call[KIND] == WRITE and call[NAME] == read[NAME] and call[TOLD] == read[TOLD]:
            return call
    return None


BAR_SIZES = {"strange": 1, "early": 1, "late": 2, "crossed": 4}
BAR_JUDGES = {"strange": _is_strange, "early": _is_early, "late": _is_late, "crossed": _is_crossed}


def is_bar(history, thing):
    """Whether this tells why a history has no right order."""
    _checked(history)
    if not isinstance(thing, tuple) or thing == () or not isinstance(thing[0], str) or thing[0] not in BAR_SIZES:
        return False
    if len(thing) != 1 + BAR_SIZES[thing[0]] or not all([_is_index(history, k) for k in thing[1:]]):
        return False
    calls = [history[k] for k in thing[1:]]
    if not all([_counts(call) and call[NAME] == calls[0][NAME] for call in calls]):
        return False
    judge = BAR_JUDGES[thing[0]]
    return judge(history, calls)
