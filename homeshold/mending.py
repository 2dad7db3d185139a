"""How a home mends itself by another one of its epoch: they find by few values what parts their heads."""

from homeshold.basics import is_home
from homeshold.errors import NoHomeNumber, NoTable
from homeshold.tables import BLOCKS, EPOCH, HEADS, NEXT, head_at, is_leased, is_table, led_by
from homeshold.values import GREAT_PRIME, MOST_NUMBERS, MOST_PLACES, difference_of, number_at, values_of
from homeshold.values import roots_of

FIRST_MANY = 2


def begin_mending(home, table, other):
    """The tuple of the letter by which a home begins to mend itself by another one, () if it can't."""
    if not is_home(home):
        raise NoHomeNumber()
    if not is_table(table):
        raise NoTable()
    if not is_home(other) or other == home:
        raise NoHomeNumber()
    if table[EPOCH] < 0 or table[NEXT] is not None:
        return ()
    return ((("home", other), ("home", home), 0, "sums", (table[EPOCH], FIRST_MANY)),)


def _numbers(table):
    """The numbers of the pairs of a table."""
    return [number_at(name, stamp) for name, stamp, row in table[HEADS]]


def _places(many):
    return tuple([GREAT_PRIME - 1 - k for k in range(many)])


# What a home does with a letter of another one: a pair of the tuple of deeds and the tuple of answers,
# each answer a pair of a word and a rest.

NOTHING = ((), ())


def _with_sums(table, rest):
    epoch, many = rest
    numbers = _numbers(table)
    sums = values_of(GREAT_PRIME, numbers, _places(many))
    return (), (("values", (epoch, many, len(numbers), sums)),)


def _with_values(table, rest):
    epoch, many, size, sums = rest
    if len(sums) != many or not all([1 <= value < GREAT_PRIME for value in sums]) or size > MOST_NUMBERS:
        return NOTHING
    found = difference_of(GREAT_PRIME, _numbers(table), size, _places(many), sums, many)
    if found is None:
        if 2 * many > MOST_PLACES:
            return (), (("roots", (epoch, ())),)
        return (), (("sums", (epoch, 2 * many)),)
    if found[0] == (1,):
        return NOTHING
    return (), (("roots", (epoch, found[0])),)


def _with_roots(table, rest):
    epoch, factor = rest
    wanted = [head for head in table[HEADS] if roots_of(GREAT_PRIME, factor, (number_at(head[0], head[1]),))]
    if not wanted:
        return NOTHING
    return (), (("heads", (epoch, tuple(wanted), led_by(wanted, table[BLOCKS]))),)


def _with_heads(table, rest):
    _, heads, blocks = rest
    here = dict(blocks + table[BLOCKS])
    wanted = tuple([head for head in heads if _is_wanted(table, here, head)])
    if wanted == ():
        return NOTHING
    return (("mend", wanted, led_by(wanted, blocks)),), ()


def _is_wanted(table, here, head):
    """Whether a home takes this head from another one, here being the blocks that it has or is told."""
    name, stamp, row = head
    if is_leased(table, name, None) or stamp <= head_at(table, name)[0]:
        return False
    return row is None or all([block_id in here for block_id in row])


WORDS = {"sums": _with_sums, "values": _with_values, "roots": _with_roots, "heads": _with_heads}


def mended(table, word, rest):
    """What a home with this table does with such a letter of another one."""
    if table[EPOCH] != rest[0] or table[NEXT] is not None:
        return NOTHING
    doing = WORDS[word]
    return doing(table, rest)
