"""Letters: from hands to homes, from one home to another, and from homes to hands."""

from homeshold.basics import is_count, is_hand, is_home, is_pair
from homeshold.forms import are_parts, is_tuple_of

TO_HOMES = {
    "ask": ("epoch", "name"), "list": ("epoch",), "get": ("epoch", "id"), "put": ("epoch", "id", "piece"),
    "head": ("epoch", "name", "stamp", "row"), "lease": ("epoch", "name"), "free": ("epoch", "name"),
    "prepare": ("epoch", "ballot"), "accept": ("epoch", "ballot", "members"), "seal": ("epoch", "members"),
    "install": ("epoch", "members", "ahead", "heads", "blocks"),
}
AMONG_HOMES = {
    "sums": ("epoch", "many"), "values": ("epoch", "many", "size", "sums"), "roots": ("epoch", "factor"),
    "heads": ("epoch", "heads", "blocks"),
}
TO_HANDS = {
    "told": ("epoch", "name", "stamp", "row"), "names": ("epoch", "names"), "block": ("epoch", "id", "piece"),
    "none": ("epoch", "id"), "have": ("epoch", "id"), "kept": ("epoch", "name", "stamp"),
    "lacks": ("epoch", "name", "stamp", "ids"), "leased": ("epoch",), "granted": ("epoch", "name", "stamp", "row"),
    "freed": ("epoch", "name"), "promised": ("epoch", "ballot", "voted"), "voted": ("epoch", "ballot"),
    "beaten": ("epoch", "ballot"), "sealed": ("epoch", "members", "heads", "blocks"),
    "stood": ("epoch", "members", "heads", "blocks"), "installed": ("epoch",),
    "moved": ("epoch", "epoch", "members", "ahead"), "behind": ("epoch",),
}


def is_machine(thing):
    """Whether this is a home or a hand, as it stands at the head of a letter."""
    if not is_pair(thing):
        return False
    return thing[0] == "home" and is_home(thing[1]) or thing[0] == "hand" and is_hand(thing[1])


def is_letter(thing):
    """Whether this is a letter."""
    if not is_tuple_of(5, thing):
        return False
    to, by, talk, word, rest = thing
    if not is_machine(to) or not is_machine(by) or not is_count(talk):
        return False
    return isinstance(word, str) and isinstance(rest, tuple) and _is_told(to, by, word, rest)


def _is_told(to, by, word, rest):
    if to[0] == "hand":
        return by[0] == "home" and word in TO_HANDS and are_parts(TO_HANDS[word], rest)
    if by[0] == "hand":
        return word in TO_HOMES and are_parts(TO_HOMES[word], rest)
    # No home writes to itself: the letters among homes go from one to another one.
    return to != by and word in AMONG_HOMES and are_parts(AMONG_HOMES[word], rest)
