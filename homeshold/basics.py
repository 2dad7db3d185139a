"""What is kept: names, texts, pieces, rows, heads and members."""

from homeshold.errors import NoMembers, NoPieces, NoText

MOST_HOMES = 9
MOST_HANDS = 99
MOST_PIECES = 12
PIECE_SIGNS = 8
NAME_SIGNS = 8
TEXT_SIGNS = 96


def is_integer(thing):
    """Whether this is an integer: True and False are none."""
    return isinstance(thing, int) and not isinstance(thing, bool)


def is_count(thing):
    """Whether this is an integer from 0 on."""
    return is_integer(thing) and thing >= 0


def is_from_one(thing):
    """Whether this is an integer from 1 on."""
    return is_integer(thing) and thing >= 1


def is_pair(thing):
    """Whether this is a tuple of two."""
    return isinstance(thing, tuple) and len(thing) == 2


def is_signs(thing):
    """Whether this is a string of signs from the blank to ~, of any length."""
    return isinstance(thing, str) and all([" " <= sign <= "~" for sign in thing])


def is_lined(thing):
    """Whether this is a string of signs from the blank to ~ and line feeds, of any length."""
    return isinstance(thing, str) and is_signs(thing.replace("\n", ""))


def is_ascending(things):
    """Whether each of these is greater than the one ahead of it."""
    return all([things[k] < things[k + 1] for k in range(len(things) - 1)])


def is_home(thing):
    """Whether this is the number of a home."""
    return is_integer(thing) and 0 <= thing < MOST_HOMES


def is_hand(thing):
    """Whether this is the number of a hand."""
    return is_integer(thing) and 1 <= thing <= MOST_HANDS


def is_name(thing):
    """Whether this is a name of a file."""
    if not isinstance(thing, str) or not 1 <= len(thing) <= NAME_SIGNS:
        return False
    return all(["a" <= sign <= "z" for sign in thing])


def is_text(thing):
    """Whether this is a text that a file can have."""
    return is_signs(thing) and len(thing) <= TEXT_SIGNS


def is_piece(thing):
    """Whether this is a piece of a text."""
    return is_signs(thing) and 1 <= len(thing) <= PIECE_SIGNS


def is_block_id(thing):
    """Whether this is the id of a block: a hand and a number."""
    return is_pair(thing) and is_hand(thing[0]) and is_from_one(thing[1])


def is_row(thing):
    """Whether this is a row of ids, or None, the row of no file."""
    if thing is None:
        return True
    if not isinstance(thing, tuple) or len(thing) > MOST_PIECES:
        return False
    return all([is_block_id(item) for item in thing])


def is_stamp(thing):
    """Whether this is a stamp: a number and a hand, or the first stamp, two noughts."""
    if not is_pair(thing) or not is_integer(thing[0]) or not is_integer(thing[1]):
        return False
    return thing == (0, 0) or is_from_one(thing[0]) and is_hand(thing[1])


def is_head(thing):
    """Whether this is a head: a stamp and a row."""
    return is_pair(thing) and is_stamp(thing[0]) and is_row(thing[1])


def is_members(thing):
    """Whether this is an ascending tuple of 1 to 9 homes."""
    if not isinstance(thing, tuple) or not 1 <= len(thing) <= MOST_HOMES:
        return False
    return all([is_home(item) for item in thing]) and is_ascending(thing)


def majority(members):
    """The least number that is more than half of the members."""
    if not is_members(members):
        raise NoMembers()
    return len(members) // 2 + 1


def few(members):
    """How many members are left when a majority is taken away."""
    more = majority(members)
    return len(members) - more


def chopped(text):
    """The tuple of the pieces of a text, each of eight signs but perhaps the last one."""
    if not is_text(text):
        raise NoText()
    return tuple([text[k:k + PIECE_SIGNS] for k in range(0, len(text), PIECE_SIGNS)])


def joined(pieces):
    """The text that these pieces make up."""
    if not isinstance(pieces, tuple) or len(pieces) > MOST_PIECES:
        raise NoPieces()
    if not all([is_piece(piece) for piece in pieces]):
        raise NoPieces()
    return "".join(pieces)
