"""The forms of the parts of tables, deeds and letters."""

from homeshold.basics import is_ascending, is_block_id, is_count, is_hand, is_members, is_name, is_pair, is_piece
from homeshold.basics import is_row, is_stamp

MOST_PLACES = 64


def is_tuple_of(many, thing):
    """Whether this is a tuple of so many."""
    return isinstance(thing, tuple) and len(thing) == many


def is_ahead(thing):
    """Whether these are members of an epoch ahead, or (), as there are none."""
    return thing == () or is_members(thing)


def is_vote(thing):
    """Whether this is a vote, a ballot and members, or None."""
    return thing is None or is_pair(thing) and is_stamp(thing[0]) and is_members(thing[1])


def is_heads(thing):
    """Whether this is an ascending tuple of a name, a stamp and a row each, each name once."""
    if not isinstance(thing, tuple) or not all([_is_named_head(item) for item in thing]):
        return False
    return is_ascending([item[0] for item in thing])


def _is_named_head(thing):
    return is_tuple_of(3, thing) and is_name(thing[0]) and is_stamp(thing[1]) and is_row(thing[2])


def is_blocks(thing):
    """Whether this is an ascending tuple of an id and a piece each, each id once."""
    if not isinstance(thing, tuple) or not all([_is_block(item) for item in thing]):
        return False
    return is_ascending([item[0] for item in thing])


def _is_block(thing):
    return is_pair(thing) and is_block_id(thing[0]) and is_piece(thing[1])


def is_names(thing):
    """Whether this is an ascending tuple of names."""
    return isinstance(thing, tuple) and all([is_name(item) for item in thing]) and is_ascending(thing)


def is_ids(thing):
    """Whether this is an ascending tuple of ids of blocks."""
    return isinstance(thing, tuple) and all([is_block_id(item) for item in thing]) and is_ascending(thing)


def is_counts(thing, most):
    """Whether this is a tuple of at most so many integers from 0 on."""
    return isinstance(thing, tuple) and len(thing) <= most and all([is_count(item) for item in thing])


def is_part(kind, thing):
    """Whether this is a part of this kind of a deed or a letter."""
    if kind in ("epoch", "talk", "size"):
        return is_count(thing)
    if kind == "name":
        return is_name(thing)
    if kind == "hand":
        return is_hand(thing)
    if kind in ("stamp", "ballot"):
        return is_stamp(thing)
    if kind == "row":
        return is_row(thing)
    if kind == "id":
        return is_block_id(thing)
    if kind == "piece":
        return is_piece(thing)
    if kind == "members":
        return is_members(thing)
    if kind == "ahead":
        return is_ahead(thing)
    if kind == "voted":
        return is_vote(thing)
    if kind == "many":
        return is_count(thing) and 1 <= thing <= MOST_PLACES
    return _is_lot(kind, thing)


def _is_lot(kind, thing):
    if kind == "heads":
        return is_heads(thing)
    if kind == "blocks":
        return is_blocks(thing)
    if kind == "names":
        return is_names(thing)
    if kind == "ids":
        return is_ids(thing)
    if kind == "sums":
        return is_counts(thing, MOST_PLACES)
    return kind == "factor" and is_counts(thing, MOST_PLACES + 1)


def are_parts(kinds, things):
    """Whether these are parts of just these kinds."""
    if len(things) != len(kinds):
        return False
    return all([is_part(kind, thing) for kind, thing in zip(kinds, things)])
