"""Tables, what a home knows, and the deeds that change them."""

from homeshold.basics import is_ascending, is_count, is_hand, is_members, is_name, is_stamp
from homeshold.errors import NoDeed, NoName, NoTable
from homeshold.forms import are_parts, is_ahead, is_blocks, is_heads, is_tuple_of, is_vote

# The places of the parts of a table.
EPOCH = 0
MEMBERS = 1
AHEAD = 2
CLOCK = 3
HEADS = 4
BLOCKS = 5
LEASES = 6
PROMISE = 7
VOTED = 8
NEXT = 9
MANY_PARTS = 10

BARE = (-1, (), (), 0, (), (), (), (0, 0), None, None)
FIRST_STAMP = (0, 0)
FIRST_HEAD = ((0, 0), None)
LEASE_TICKS = 8

DEEDS = {
    "install": ("epoch", "members", "ahead", "heads", "blocks"), "put": ("id", "piece"),
    "head": ("name", "stamp", "row"), "lease": ("name", "hand", "talk"), "free": ("name", "hand", "talk"),
    "promise": ("ballot",), "vote": ("ballot", "members"), "seal": ("members",), "tick": (), "collect": (),
    "rise": (), "mend": ("heads", "blocks"),
}
# What a home does that keeps nothing as yet.
BARE_DEEDS = ("install", "stand", "tick", "rise", "collect")


def bare_table():
    """The table of a home that keeps nothing."""
    return BARE


def is_table(thing):
    """Whether this is a table."""
    if not is_tuple_of(MANY_PARTS, thing):
        return False
    if not is_count(thing[CLOCK]) or not _are_leases(thing[LEASES]):
        return False
    if not is_stamp(thing[PROMISE]) or not is_vote(thing[VOTED]):
        return False
    if thing[NEXT] is not None and not is_members(thing[NEXT]):
        return False
    kept = thing[MEMBERS], thing[AHEAD], thing[HEADS], thing[BLOCKS]
    if thing[EPOCH] == -1:
        return kept == ((), (), (), ())
    return is_count(thing[EPOCH]) and _are_kept(kept)


def _are_kept(parts):
    members, ahead, heads, blocks = parts
    return is_members(members) and is_ahead(ahead) and is_heads(heads) and is_blocks(blocks)


def _are_leases(thing):
    if not isinstance(thing, tuple) or not all([_is_lease(item) for item in thing]):
        return False
    return is_ascending([item[:2] for item in thing])


def _is_lease(thing):
    if not is_tuple_of(4, thing) or not is_name(thing[0]) or not is_hand(thing[1]):
        return False
    return is_count(thing[2]) and is_count(thing[3])


def is_deed(thing):
    """Whether this is a deed."""
    if not isinstance(thing, tuple) or thing == () or not isinstance(thing[0], str):
        return False
    if thing[0] == "stand":
        return len(thing) == 2 and is_table(thing[1])
    return thing[0] in DEEDS and are_parts(DEEDS[thing[0]], thing[1:])


def changed(table, at, part):
    """The table with another part at this place."""
    return table[:at] + (part,) + table[at + 1:]


def head_key(head):
    """What heads are compared by: their stamps, and behind these their rows, no file being the least."""
    stamp, row = head
    return (stamp, row is not None, row or ())


def heads_by_name(heads):
    """The dict from each name to its head."""
    return {name: (stamp, row) for name, stamp, row in heads}


def heads_in_order(found):
    """The heads of a dict from names to heads, as they stand in a table."""
    return tuple([(name, found[name][0], found[name][1]) for name in sorted(found)])


def _leases_by_holder(table):
    return {(name, hand): (talk, until) for name, hand, talk, until in table[LEASES]}


def _leases_in_order(found):
    return tuple([holder + found[holder] for holder in sorted(found)])


def led_ids(heads):
    """The dict from each id in the rows of these heads to True."""
    return {block_id: True for name, stamp, row in heads if row is not None for block_id in row}


def led_by(heads, blocks):
    """Those of the blocks whose ids stand in the rows of these heads."""
    led = led_ids(heads)
    return tuple([block for block in blocks if block[0] in led])


# What a deed does: each of these gets the table, and the parts of the deed behind its word.


def _installed(table, parts):
    epoch, members, ahead, heads, blocks = parts
    return (epoch, members, ahead, table[CLOCK], heads, blocks, (), (0, 0), None, None)


def _put(table, parts):
    block_id, piece = parts
    found = dict(table[BLOCKS])
    found[block_id] = piece
    return changed(table, BLOCKS, tuple(sorted(found.items())))


def _headed(table, parts):
    name, stamp, row = parts
    found = heads_by_name(table[HEADS])
    found[name] = (stamp, row)
    return changed(table, HEADS, heads_in_order(found))


def _leased(table, parts):
    name, hand, talk = parts
    found = _leases_by_holder(table)
    elder = found.get((name, hand), (0, 0))[0]
    found[(name, hand)] = (max(talk, elder), table[CLOCK] + LEASE_TICKS)
    return changed(table, LEASES, _leases_in_order(found))


def _freed(table, parts):
    name, hand, talk = parts
    stay = [lease for lease in table[LEASES] if lease[:2] != (name, hand) or lease[2] >= talk]
    return changed(table, LEASES, tuple(stay))


def _promised(table, parts):
    return changed(table, PROMISE, parts[0])


def _voted(table, parts):
    return changed(changed(table, PROMISE, parts[0]), VOTED, parts)


def _sealed(table, parts):
    return changed(table, NEXT, parts[0])


def _ticked(table, parts):
    clock = table[CLOCK] + 1
    stay = [lease for lease in table[LEASES] if clock < lease[3]]
    return changed(changed(table, CLOCK, clock), LEASES, tuple(stay))


def _collected(table, parts):
    return changed(table, BLOCKS, led_by(table[HEADS], table[BLOCKS]))


def _risen(table, parts):
    until = table[CLOCK] + LEASE_TICKS
    return changed(table, LEASES, tuple([lease[:3] + (until,) for lease in table[LEASES]]))


def _stood(table, parts):
    return parts[0]


def _mended(table, parts):
    heads, blocks = parts
    found = heads_by_name(table[HEADS])
    for name, stamp, row in heads:
        if found.get(name, FIRST_HEAD)[0] < stamp:
            found[name] = (stamp, row)
    pieces = dict(blocks)
    for block_id, piece in table[BLOCKS]:
        pieces[block_id] = piece
    return changed(changed(table, HEADS, heads_in_order(found)), BLOCKS, tuple(sorted(pieces.items())))


DOINGS = {
    "install": _installed, "put": _put, "head": _headed, "lease": _leased, "free": _freed, "promise": _promised,
    "vote": _voted, "seal": _sealed, "tick": _ticked, "collect": _collected, "rise": _risen, "stand": _stood,
    "mend": _mended,
}


def behind(table, deed):
    """The table behind a deed."""
    if not is_table(table):
        raise NoTable()
    if not is_deed(deed) or not lets(table, deed):
        raise NoDeed()
    return done(table, deed)


def lets(table, deed):
    """Whether a home with this table can do this deed."""
    return table[EPOCH] >= 0 or deed[0] in BARE_DEEDS


def done(table, deed):
    """The table behind a deed that it lets: what they are isn't checked again."""
    doing = DOINGS[deed[0]]
    return doing(table, deed[1:])


def is_closed(table):
    """Whether the table has the blocks of all ids in the rows of its heads."""
    if not is_table(table):
        raise NoTable()
    here = dict(table[BLOCKS])
    return all([block_id in here for block_id in led_ids(table[HEADS])])


def head_at(table, name):
    """The head of a name, the first one if the table has none: what they are isn't checked."""
    return heads_by_name(table[HEADS]).get(name, FIRST_HEAD)


def head_of(table, name):
    """The head of a name, the first one if the table has none."""
    if not is_table(table):
        raise NoTable()
    if not is_name(name):
        raise NoName()
    return head_at(table, name)


def led_blocks(table):
    """The ascending tuple of the blocks to which some name leads."""
    if not is_table(table):
        raise NoTable()
    return led_by(table[HEADS], table[BLOCKS])


def is_leased(table, name, but):
    """Whether some hand other than but, None for no such one, has a lease in force at the name."""
    found = [lease for lease in table[LEASES] if lease[0] == name and table[CLOCK] < lease[3]]
    return any([lease[1] != but for lease in found])
