"""Values that several tests share."""

from homeshold.disks import Disk
from homeshold.errors import HomeError, NoItem
from homeshold.hands import Hand


def nested(thing, many):
    """The thing within so many tuples."""
    for _ in range(many):
        thing = (thing,)
    return thing


def in_lists(thing, many):
    """The thing within so many dicts and lists."""
    for k in range(many):
        thing = [thing] if k % 2 else {"a": thing}
    return thing


# None of these is an integer, and none but the strings is a string.
NO_INTEGERS = (
    True, False, None, "", "0", "1", "a", (), (0,), (1, 1), [], [0], [1], {}, {0: 1}, {"a": 1}, HomeError(), NoItem(1),
    Disk(), Hand(1, 0, (0,), ()), nested(0, 30), nested((), 29), in_lists(0, 30),
)

# None of these is a tuple that the package knows, nor a string that it takes for a word or a name.
STRANGE = NO_INTEGERS[:3] + NO_INTEGERS[4:7] + (
    0, 1, -1, 10 ** 30 - 1, -(10 ** 30) + 1, "\n", "~" * 20000, "A", "abcdefghi", (None,), (True,), ("",), ("a",),
    ("what",), ("what", 1), (["put"], (1, 1), "a"), ({"put": 1},), (("put",),), ((),), ([],),
) + NO_INTEGERS[8:]

# A table in which each part holds something, but that it isn't sealed.
TABLE = (
    3, (0, 2, 5), (1, 2), 20,
    (("a", (2, 1), ((1, 1), (2, 7), (1, 1))), ("b", (1, 4), None), ("cab", (5, 99), ()), ("d", (9, 3), ((4, 2),))),
    (((1, 1), "one"), ((1, 2), "idle"), ((2, 7), "two"), ((4, 2), "four"), ((99, 1), "unled")),
    (("a", 1, 4, 25), ("a", 7, 9, 21), ("b", 7, 3, 20), ("cab", 2, 0, 0)),
    (4, 2), ((3, 1), (0, 1)), None,
)
BARE = (-1, (), (), 0, (), (), (), (0, 0), None, None)


def spoilt(thing, at, part):
    """The tuple with another part at this place."""
    return thing[:at] + (part,) + thing[at + 1:]


# For each kind of part: some that are good, and some that are none.
NO_COUNTS = NO_INTEGERS + (-1, -(10 ** 11))
NO_NAMES = (
    "", "A", "aB", "abcdefghi", "a1", "a ", "a\n", " ", None, 0, True, (), ("a",), ["a"], {"a": 1}, nested("a", 29), Disk(),
)
NO_HANDS = NO_INTEGERS + (0, -1, 100, 10 ** 11)
NO_HOMES = NO_INTEGERS + (-1, 9, 10, 10 ** 11)
NO_STAMPS = (
    None, 0, 1, True, "", "11", (), (1,), (1, 1, 1), [1, 1], [0, 0], {1: 1}, (0, 1), (1, 0), (1, 100), (-1, 1), (0, 5), (True, 1),
    (1, True), (False, False), (0, False), ("1", 1), (1, None), ((1, 1), 1), nested(1, 29), Disk(), in_lists(0, 30),
)
# Of an id the hand stands first, of a stamp or ballot the number.
NO_IDS = tuple([thing for thing in NO_STAMPS if thing != (1, 100)]) + ((0, 0), (100, 1), (5, 0), (5, -1))
NO_ROWS = (
    0, True, "", "a", [], [(1, 1)], {}, (1, 1), ((0, 0),), ((1, 0),), ((0, 1),), ((100, 1),), ((1, 1),) * 13, ([1, 1],),
    ((True, 1),), ((1, True),), ((1, 1), None), (None,), ((),), nested(1, 29), Disk(),
)
NO_PIECES = (
    None, 0, True, "", "ninesigns", "a\n", "\n", (), ("a",), ["a"], {}, nested("a", 29), Disk(), "x" * 20000,
)
NO_AHEADS = (
    None, 0, True, "", "0", [], [0], [0, 1], {}, {0: 1}, (0, 0), (1, 0), (0, 2, 1), (-1, 0), (9,), (0, 9), (True,), (0, True),
    (False,), (0, None), ("0",), ((0,),), tuple(range(10)), (0, 1, 2, 3, 4, 5, 6, 7, 8, 8), nested(0, 30), Disk(),
)
NO_MEMBERS = NO_AHEADS + ((),)
NO_VOTES = (
    0, True, "", (), [], ((1, 1),), ((1, 1), ()), ((1, 1), None), ((1, 1), (1, 0)), ((1, 1), [0]), [(1, 1), (0,)],
    ((0, 1), (0,)), ((1, 0), (0,)), (None, (0,)), ([1, 1], (0,)), ((True, 1), (0,)), ((1, 1), (0,), 0), ((1, 1), (True,)),
    (1, 1), nested(0, 29), Disk(),
)
NO_HEADS = (
    None, 0, True, "", "a", [], {}, [("a", (1, 1), None)], ("a", (1, 1), None), (["a", (1, 1), None],),
    (("a", (1, 1)),), (("a", (1, 1), None, 0),), (("A", (1, 1), None),), (("", (1, 1), None),), ((None, (1, 1), None),),
    (("a", (0, 1), None),), (("a", (1, 0), None),), (("a", [1, 1], None),), (("a", (True, 1), None),), (("a", None, None),),
    (("a", (1, 1), 0),), (("a", (1, 1), [(1, 1)]),), (("a", (1, 1), (1, 1)),), (("a", (1, 1), ((1, 0),)),),
    (("a", (1, 1), ((1, 1),) * 13),), (("a", (1, 1), None), ("a", (1, 1), None)), (("a", (1, 1), None), ("a", (2, 1), None)),
    (("b", (1, 1), None), ("a", (2, 1), None)), (("a", (1, 1), ()), ("a", (1, 1), None)),
    (("a", (1, 1), None), ("c", (1, 1), None), ("b", (1, 1), None)), (("a", (1, 1), None), None), ((),), (None,),
    nested("a", 29), Disk(), (("ab", (1, 1), None), ("a", (1, 1), None)),
)
NO_BLOCKS = (
    None, 0, True, "", [], {}, {(1, 1): "a"}, [((1, 1), "a")], ((1, 1), "a"), ([(1, 1), "a"],), (((1, 1),),),
    (((1, 1), "a", 0),), (((0, 1), "a"),), (((1, 0), "a"),), (((100, 1), "a"),), (((1, True), "a"),), (([1, 1], "a"),),
    ((None, "a"),), (((1, 1), ""),), (((1, 1), "ninesigns"),), (((1, 1), "a\n"),), (((1, 1), None),), (((1, 1), ["a"]),),
    (((1, 1), "a"), ((1, 1), "a")), (((1, 1), "a"), ((1, 1), "b")), (((1, 2), "a"), ((1, 1), "b")),
    (((2, 1), "a"), ((1, 9), "b")), (((1, 1), "a"), None), ((),), (None,), nested("a", 29), Disk(),
)
NO_LEASES = (
    None, 0, True, "", [], {}, [("a", 1, 1, 1)], ("a", 1, 1, 1), (["a", 1, 1, 1],), (("a", 1, 1),), (("a", 1, 1, 1, 1),),
    (("A", 1, 1, 1),), ((None, 1, 1, 1),), (("a", 0, 1, 1),), (("a", 100, 1, 1),), (("a", True, 1, 1),), (("a", None, 1, 1),),
    (("a", 1, -1, 1),), (("a", 1, True, 1),), (("a", 1, None, 1),), (("a", 1, 1, -1),), (("a", 1, 1, False),),
    (("a", 1, 1, None),), (("a", 1, 1, "1"),), (("a", 1, 1, 1), ("a", 1, 1, 1)), (("a", 1, 1, 1), ("a", 1, 2, 2)),
    (("a", 2, 1, 1), ("a", 1, 1, 1)), (("b", 1, 1, 1), ("a", 2, 1, 1)), (("a", 1, 1, 1), None), ((),), (None,),
    nested("a", 29), Disk(),
)
