"""Things as texts: packed and unpacked, and sealed with a check."""

from homeshold.basics import is_integer, is_lined, is_signs
from homeshold.errors import BadText, NoText, NoThing

DEEPEST = 30
MOST_DIGITS = 30
BOUND = 10 ** 30
CHECK_PRIME = 99991
DIGITS = "0123456789"


def is_thing(thing, deepest):
    """Whether this is a thing whose tuples are nested at most so deep."""
    if isinstance(thing, tuple):
        return deepest > 0 and all([is_thing(item, deepest - 1) for item in thing])
    if isinstance(thing, str):
        return is_signs(thing)
    return thing is None or is_integer(thing) and -BOUND < thing < BOUND


def packed(thing):
    """The text of a thing."""
    if not is_thing(thing, DEEPEST):
        raise NoThing()
    return _text_of(thing)


def _text_of(thing):
    if thing is None:
        return "."
    if isinstance(thing, str):
        return "'" + thing.replace("~", "~~").replace("'", "~'") + "'"
    if isinstance(thing, tuple):
        return "(" + ",".join([_text_of(item) for item in thing]) + ")"
    return str(thing)


def unpacked(text):
    """The thing whose text this is."""
    if not isinstance(text, str):
        raise BadText(-1)
    thing, place = _read_thing(text, 0, 0)
    if place < len(text):
        raise BadText(place)
    return thing


# The readers get the place at which they begin, and return a pair: what they read,
# and the place behind it. Depth tells how many tuples are open around the place.


def _read_thing(text, place, depth):
    if place == len(text):
        raise BadText(place)
    if text[place] == ".":
        return None, place + 1
    if text[place] == "'":
        return _read_string(text, place + 1)
    if text[place] != "(":
        return _read_integer(text, place)
    if depth == DEEPEST:
        raise BadText(place)
    return _read_tuple(text, place + 1, depth + 1)


def _read_tuple(text, place, depth):
    if place < len(text) and text[place] == ")":
        return (), place + 1
    things = []
    while True:
        thing, place = _read_thing(text, place, depth)
        things.append(thing)
        if place == len(text) or text[place] not in ",)":
            raise BadText(place)
        if text[place] == ")":
            return tuple(things), place + 1
        place += 1


def _read_string(text, place):
    signs = []
    while place < len(text) and text[place] != "'":
        if text[place] == "~":
            place += 1
            if place == len(text) or text[place] not in "'~":
                raise BadText(place)
        elif not is_signs(text[place]):
            raise BadText(place)
        signs.append(text[place])
        place += 1
    if place == len(text):
        raise BadText(place)
    return "".join(signs), place + 1


def _read_integer(text, place):
    first = place + 1 if text[place] == "-" else place
    behind = first
    while behind < len(text) and text[behind] in DIGITS:
        behind += 1
    if behind == first:
        raise BadText(first)
    if text[first] == "0":
        # No digit may follow a 0, and a 0 has no minus.
        if first > place:
            raise BadText(first)
        return 0, first + 1
    if behind - first > MOST_DIGITS:
        raise BadText(first + MOST_DIGITS)
    return int(text[place:behind]), behind


def check(text):
    """A number that tells a text from those that a slip of the pen makes of it."""
    if not is_lined(text):
        raise NoText()
    return check_behind(0, 0, text)


def check_behind(number, many, text):
    """The check of so many signs, whose check is this number, with this text behind them."""
    # The blank, sign number 32, is worth 1; a line feed is worth nothing.
    worths = [(ord(sign) - 31) * place for place, sign in enumerate(text, start=many + 1) if sign != "\n"]
    return (number + sum(worths)) % CHECK_PRIME


def sealed(thing):
    """The text of a thing, with its check behind it."""
    text = packed(thing)
    return text + "#" + str(check(text))


def unsealed(text):
    """The tuple of the one thing of which this is the sealed text, () if it is none."""
    if not isinstance(text, str):
        return ()
    # A check has no # in it, so the last one is the one ahead of it.
    body, _, digits = text.rpartition("#")
    try:
        thing = unpacked(body)
    except BadText:
        return ()
    if digits != str(check(body)):
        return ()
    return (thing,)
