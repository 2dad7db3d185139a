"""What a home does with a letter to it."""

from homeshold.basics import is_home
from homeshold.errors import NoHomeNumber, NoLetter, NoTable
from homeshold.letters import AMONG_HOMES, is_letter
from homeshold.mending import mended
from homeshold.tables import AHEAD, BLOCKS, EPOCH, HEADS, LEASES, MEMBERS, NEXT, PROMISE, VOTED
from homeshold.tables import head_at, is_leased, is_table, led_by

# Each of these gets the table, the hand that wrote, the talk and the rest of the letter, and returns a pair
# of the tuple of deeds and of the answer, which is a pair of a word and a rest.


def _ask(table, hand, talk, rest):
    epoch, name = rest
    return (), ("told", (epoch, name) + head_at(table, name))


def _list(table, hand, talk, rest):
    names = tuple([name for name, stamp, row in table[HEADS] if row is not None])
    return (), ("names", (rest[0], names))


def _get(table, hand, talk, rest):
    epoch, block_id = rest
    here = dict(table[BLOCKS])
    if block_id not in here:
        return (), ("none", (epoch, block_id))
    return (), ("block", (epoch, block_id, here[block_id]))


def _put(table, hand, talk, rest):
    epoch, block_id, piece = rest
    deeds = () if block_id in dict(table[BLOCKS]) else (("put", block_id, piece),)
    return deeds, ("have", (epoch, block_id))


def _head(table, hand, talk, rest):
    epoch, name, stamp, row = rest
    if stamp <= head_at(table, name)[0]:
        return (), ("kept", (epoch, name, stamp))
    if is_leased(table, name, hand):
        return (), ("leased", (epoch,))
    here = dict(table[BLOCKS])
    lacking = {block_id: True for block_id in row or () if block_id not in here}
    if lacking:
        return (), ("lacks", (epoch, name, stamp, tuple(sorted(lacking))))
    return (("head", name, stamp, row),), ("kept", (epoch, name, stamp))


def _lease(table, hand, talk, rest):
    epoch, name = rest
    return (("lease", name, hand, talk),), ("granted", (epoch, name) + head_at(table, name))


def _free(table, hand, talk, rest):
    epoch, name = rest
    elder = [lease for lease in table[LEASES] if lease[:2] == (name, hand) and lease[2] < talk]
    return (("free", name, hand, talk),) if elder else (), ("freed", (epoch, name))


def _prepare(table, hand, talk, rest):
    epoch, ballot = rest
    if ballot < table[PROMISE]:
        return (), ("beaten", (epoch, table[PROMISE]))
    deeds = () if table[PROMISE] == ballot else (("promise", ballot),)
    return deeds, ("promised", (epoch, ballot, table[VOTED]))


def _accept(table, hand, talk, rest):
    epoch, ballot, members = rest
    if ballot < table[PROMISE]:
        return (), ("beaten", (epoch, table[PROMISE]))
    deeds = () if table[VOTED] == (ballot, members) else (("vote", ballot, members),)
    return deeds, ("voted", (epoch, ballot))


def _seal(table, hand, talk, rest):
    epoch, members = rest
    if any([is_leased(table, lease[0], None) for lease in table[LEASES]]):
        return (), ("leased", (epoch,))
    return (("seal", members),), _carried(table, "sealed", epoch, members)


def _carried(table, word, epoch, members):
    """The answer that tells all heads of a home, and the blocks to which they lead."""
    return word, (epoch, members, table[HEADS], led_by(table[HEADS], table[BLOCKS]))


WORDS = {
    "ask": _ask, "list": _list, "get": _get, "put": _put, "head": _head, "lease": _lease, "free": _free,
    "prepare": _prepare, "accept": _accept, "seal": _seal,
}


def _with_hand(table, hand, talk, word, rest):
    """What a home does with a letter of a hand."""
    epoch = rest[0]
    if word == "install" and table[EPOCH] <= epoch:
        deeds = (("install",) + rest,) if table[EPOCH] < epoch else ()
        return deeds, ("installed", (epoch,))
    if table[EPOCH] > epoch:
        return (), _ahead_of_hand(table, word, epoch)
    if table[EPOCH] < epoch:
        return (), ("behind", (epoch,))
    if table[NEXT] is not None and word == "seal":
        return (), _carried(table, "sealed", epoch, table[NEXT])
    if table[NEXT] is not None:
        return (), ("moved", (epoch, epoch + 1, table[NEXT], table[MEMBERS]))
    doing = WORDS[word]
    return doing(table, hand, talk, rest)


def _ahead_of_hand(table, word, epoch):
    """The answer of a home that went on to an epoch above that of the letter."""
    if word == "seal" and table[EPOCH] == epoch + 1:
        return _carried(table, "stood", epoch, table[MEMBERS])
    return "moved", (epoch, table[EPOCH], table[MEMBERS], table[AHEAD])


def answer(home, table, letter):
    """What a home does with a letter to it: the pair of its deeds and of the letters that it writes."""
    if not is_home(home):
        raise NoHomeNumber()
    if not is_table(table):
        raise NoTable()
    if not is_letter(letter) or letter[0] != ("home", home):
        raise NoLetter()
    return answered(home, table, letter)


def answered(home, table, letter):
    """What a home does with a letter to it: what they are isn't checked."""
    to, by, talk, word, rest = letter
    if word in AMONG_HOMES:
        deeds, answers = mended(table, word, rest)
    else:
        deeds, told = _with_hand(table, by[1], talk, word, rest)
        answers = (told,)
    return deeds, tuple([(by, to, talk, told_word, told_rest) for told_word, told_rest in answers])
