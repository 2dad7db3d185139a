"""[19]: histories, right orders of them, and bars to these."""

import copy
import itertools
import random
import unittest

from homeshold.errors import HomeError, NoHistory
from homeshold.histories import bar, is_bar, is_history, is_right_order, right_order
from samples import NO_INTEGERS, STRANGE, in_lists, nested, spoilt

READ, WRITE = "read", "write"
GOOD = (WRITE, "a", (1, 7), 0, 3)
BAR_SIZES = {"strange": 1, "early": 1, "late": 2, "crossed": 4}
NO_ORDERS = NO_INTEGERS[:11] + ((0,), (), {0: 1}, "0", None, 0)


def told_right(history, order):
    """Whether an order is right, by the words of the document, one pair of calls after another."""
    for place, k in enumerate(order):
        kind, name, told, begin, end = history[k]
        for other in order[place + 1:]:
            later = history[other]
            if later[1] == name and later[4] is not None and later[4] < begin:
                return False
        written = [history[j][2] for j in order[:place] if history[j][0] == WRITE and history[j][1] == name]
        if kind == READ and (written[-1] if written else None) != told:
            return False
    return True


def orders(history):
    """All orders of a history."""
    ended = [k for k, call in enumerate(history) if call[4] is not None]
    others = [k for k, call in enumerate(history) if call[4] is None and call[0] == WRITE]
    for many in range(len(others) + 1):
        for more in itertools.combinations(others, many):
            for order in itertools.permutations(ended + list(more)):
                yield list(order)


def told_bar(history, thing):
    """Whether four words and indexes are a bar, by the words of the document."""
    word, calls = thing[0], [history[k] for k in thing[1:]]
    if any([call[0] == READ and call[4] is None for call in calls]) or len({call[1] for call in calls}) > 1:
        return False
    writes = [call for call in history if call[0] == WRITE and call[1] == calls[0][1]]

    def ahead(call, other):
        return call[4] is not None and call[4] < other[3]

    if word == "late":
        call, read = calls
        return read[0] == READ and read[2] is None and call[2] is not None and ahead(call, read)
    if word == "crossed":
        a, b, c, d = calls
        unlike = a[2] == b[2] and c[2] == d[2] and a[2] != c[2] and None not in (a[2], c[2])
        return unlike and ahead(a, c) and ahead(d, b)
    read = calls[0]
    if read[0] != READ or read[2] is None:
        return False
    own = [call for call in writes if call[2] == read[2]]
    if word == "strange":
        return not own
    return bool(own) and ahead(read, own[0])


def bars(history):
    """All bars of a history."""
    found = []
    for word, size in BAR_SIZES.items():
        for indexes in itertools.product(range(len(history)), repeat=size):
            if told_bar(history, (word,) + indexes):
                found.append((word,) + indexes)
    return found


def drawn(draw, many, names, told, unended):
    """A history of so many calls."""
    moments = list(range(-many, 2 * many))
    while True:
        draw.shuffle(moments)
        found = []
        for k in range(many):
            begin, end = sorted(moments[2 * k:2 * k + 2])
            kind = draw.choice((READ, WRITE))
            thing = draw.choice(told if kind == WRITE else told + (None,))
            found.append((kind, draw.choice(names), thing, begin, None if draw.random() < unended else end))
        if is_history(tuple(found)):
            return tuple(found)


class HistoryCase(unittest.TestCase):
    def check_history(self, thing, wanted):
        before = repr(thing)
        for _ in range(2):
            self.assertIs(is_history(thing), wanted, before[:200])
        self.assertEqual(repr(thing), before)

    def check_right(self, history):
        """There is a right order, and no bar."""
        self.check_history(history, True)
        order = right_order(history)
        self.assertIs(type(order), list)
        self.assertTrue(told_right(history, order), (history, order))
        self.assertIs(is_right_order(history, order), True)
        ended = [k for k, call in enumerate(history) if call[4] is not None]
        self.assertEqual([k for k in ended if k not in order], [])
        self.assertEqual(len(set(order)), len(order))
        self.assertIsNone(bar(history))
        self.assertEqual(right_order(history), order)
        order.append("x")
        self.assertNotEqual(right_order(history), order)

    def check_barred(self, history, *words):
        """There is a bar, of one of these words if some are told, and no right order."""
        self.check_history(history, True)
        self.assertIsNone(right_order(history))
        found = bar(history)
        self.assertIs(type(found), tuple)
        self.assertIs(is_bar(history, found), True)
        self.assertTrue(told_bar(history, found), (history, found))
        self.assertEqual(bar(history), found)
        if words:
            self.assertIn(found[0], words)
            self.assertEqual({one[0] for one in bars(history)}, set(words))


class TestIsHistory(HistoryCase):
    def test_good(self):
        for history in (
            (), (GOOD,), (spoilt(GOOD, 4, None),), ((READ, "a", None, 0, 1),), ((READ, "a", None, 0, None),),
            ((READ, "", (), -5, -4), (WRITE, "no name, but a string ~\n", "told", -5, -4)), ((WRITE, "", "", -1, 0),),
            ((WRITE, "a" * 20000, "x" * 20000, -(10 ** 30) + 1, 10 ** 30 - 1),),
            ((WRITE, "a", 10 ** 30 - 1, 0, 1), (WRITE, "a", -(10 ** 30) + 1, 2, 3)),
            ((READ, "a", None, 0, None), (READ, "a", None, 1, None), (WRITE, "a", 1, 2, None)),
        ):
            self.check_history(history, True)

    def test_no_history(self):
        for thing in STRANGE + NO_INTEGERS:
            if thing != ():
                self.check_history(thing, False)
            self.check_history((thing,), False)
            self.check_history((GOOD, thing), False)

    def test_each_part_spoilt(self):
        wrongs = (
            ("", "reads", "Read", "READ", None, 0, True, ("read",), ["read"], {"read": 1}, "lease", nested("read", 29)),
            (None, 0, True, ("a",), ["a"], {"a": 1}, (), nested("a", 29)),
            (None, True, False, [], [1], {}, {1: 1}, "a\n", "\n", 10 ** 30, -(10 ** 30), (1, True), ((1, None), [2]), ({},)),
            tuple([thing for thing in NO_INTEGERS]), tuple([thing for thing in NO_INTEGERS if thing is not None]),
        )
        for at, parts in enumerate(wrongs):
            for part in parts:
                self.check_history((spoilt(GOOD, at, part),), False)
                self.check_history(((READ, "b", 1, 0, 1), spoilt(GOOD, at, part)), False)

    def test_parts_of_a_read_spoilt(self):
        for part in (True, False, [], {}, "\n", 10 ** 30, (True,)):
            self.check_history(((READ, "a", part, 0, 1),), False)
            self.check_history(((READ, "a", part, 0, None),), False)
        for at, part in ((3, True), (3, None), (3, False), (4, True), (4, "1"), (4, False), (3, "0")):
            self.check_history((spoilt((READ, "a", 1, 0, 5), at, part),), False)

    def test_how_deep_told_may_be(self):
        for kind in (READ, WRITE):
            for thing in (0, "a", nested(0, 4), nested("", 5), nested((), 4), (((((1, 2), None),),), 7)):
                self.check_history(((kind, "a", thing, 0, 1),), True)
            for thing in (nested(0, 6), nested((), 5), nested(0, 29), (1, nested("", 5)), nested(0, 30)):
                self.check_history(((kind, "a", thing, 0, 1),), False)

    def test_what_none_may_be(self):
        self.check_history(((READ, "a", None, 0, 1),), True)
        self.check_history(((WRITE, "a", None, 0, 1),), False)
        self.check_history(((WRITE, "a", None, 0, None),), False)
        self.check_history(((WRITE, "a", (None,), 0, None),), True)
        self.check_history(((READ, "a", 1, 0, None),), True)
        self.check_history(((READ, "a", 1, None, 1),), False)
        self.check_history(((READ, "a", 1, None, None),), False)

    def test_begin_and_end(self):
        for kind in (READ, WRITE):
            for begin, end, wanted in ((0, 1, True), (-3, -2, True), (-1, 10 ** 29, True), (0, 0, False), (1, 0, False),
                                       (-2, -3, False), (5, 5, False), (5, 4, False), (5, None, True), (-5, None, True)):
                self.check_history(((kind, "a", 1, begin, end),), wanted)

    def test_moments_alike(self):
        for begin, end in ((0, 1), (0, 9), (3, 9), (-4, 0), (-4, 3), (0, None), (3, None), (-1, 0), (0, 3), (3, 4)):
            other = (READ, "a", None, begin, end)
            self.check_history((GOOD, other), False)
            self.check_history((other, GOOD), False)
            self.check_history(((READ, "b", None, 8, 9), other, (READ, "c", None, 8, 9), GOOD), False)
            # Of two names they may be alike.
            self.check_history((GOOD, spoilt(other, 1, "b")), True)
            self.check_history((GOOD, spoilt(other, 1, "")), True)
        for begin, end in ((1, 2), (1, 4), (-1, 4), (-2, 1), (4, 5), (-3, -1), (1, None), (4, None)):
            self.check_history((GOOD, (READ, "a", None, begin, end)), True)
        self.check_history(((READ, "a", 1, 5, None), (READ, "a", 1, 5, None)), False)

    def test_writes_alike(self):
        for told in (0, "", "a", (1, 7), ((((1,),),),)):
            first = (WRITE, "a", told, 0, 1)
            for end in (5, None):
                self.check_history((first, (WRITE, "a", told, 4, end)), False)
                self.check_history((spoilt(first, 4, None), (WRITE, "a", told, 4, end)), False)
                self.check_history((first, (READ, "a", told, 4, end)), True)
                self.check_history((first, (WRITE, "b", told, 4, end)), True)
                self.check_history((first, (WRITE, "a", (told,), 4, end)), True)
        self.check_history(((WRITE, "a", 0, 0, 1), (WRITE, "a", "0", 2, 3), (WRITE, "a", (0,), 4, 5), (WRITE, "a", (), 6, 7)), True)

    def test_lists_and_more_and_less(self):
        for thing in ([GOOD], [], {}, {0: GOOD}, (list(GOOD),), (GOOD, list(spoilt(GOOD, 1, "b"))), GOOD, (GOOD + (5,),),
                      (GOOD[:4],), (GOOD[1:],), ((),), (GOOD[:3],), ((GOOD,),), (GOOD, GOOD + (None,))):
            self.check_history(thing, False)

    def test_long(self):
        calls = tuple([(WRITE, "abcd"[k % 4], k, 2 * k, 2 * k + 1) for k in range(3000)])
        self.check_history(calls, True)
        self.check_history(calls + ((WRITE, "a", 0, 9000, None),), False)
        self.check_history(calls + ((WRITE, "a", -1, 0, None),), False)
        self.check_history(calls + ((WRITE, "b", -1, 0, None),), True)


class TestRightOrder(HistoryCase):
    def test_few_calls(self):
        self.assertEqual(right_order(()), [])
        self.assertIs(is_right_order((), []), True)
        self.check_right(())
        self.check_right((GOOD,))
        self.assertEqual(right_order((GOOD,)), [0])
        self.check_right(((READ, "a", None, 0, 1),))
        self.check_barred(((READ, "a", 1, 0, 1),), "strange")

    def test_reads_that_never_ended(self):
        self.check_right(((READ, "a", 5, 0, None),))
        self.assertEqual(right_order(((READ, "a", 5, 0, None), (READ, "a", None, 1, None))), [])
        self.check_right((GOOD, (READ, "a", "strange", 9, None), (READ, "a", None, 10, None)))
        self.assertEqual(right_order((GOOD, (READ, "a", "strange", 9, None))), [0])

    def test_writes_that_never_ended(self):
        read = (READ, "a", 1, 10, 11)
        self.check_right(((WRITE, "a", 1, 5, None), read))
        self.check_right(((WRITE, "a", 1, 9, None), read))
        self.check_right(((WRITE, "a", 1, 12, None), spoilt(read, 4, 13)))
        self.check_barred(((WRITE, "a", 1, 12, None), read), "early")
        # Nobody read it, so it may have been or not.
        self.check_right(((WRITE, "a", 1, 0, None), (READ, "a", None, 10, 11)))
        self.check_right(((WRITE, "a", 1, 0, None), (WRITE, "a", 2, 1, 2), (READ, "a", 2, 10, 11), (READ, "a", 2, 12, 13)))
        self.check_right(((WRITE, "a", 1, 0, None), (WRITE, "a", 2, 1, 2), (READ, "a", 2, 10, 11), (READ, "a", 1, 12, 13)))
        self.check_barred(((WRITE, "a", 1, 0, None), (WRITE, "a", 2, 1, 2), (READ, "a", 1, 3, 4), (READ, "a", 2, 12, 13),
                           (READ, "a", 1, 14, 15)), "crossed")

    def test_several_names(self):
        one = ((WRITE, "a", 1, 0, 1), (READ, "a", 1, 2, 3))
        other = ((WRITE, "", 1, 0, 1), (READ, "", 1, 2, 3), (READ, "", None, -3, -2))
        self.check_right(one + other)
        self.check_right(other + one)
        self.check_barred(one + ((READ, "c", 1, 4, 5),), "strange")
        self.check_barred(other + ((READ, "a", 1, 4, 5),) + ((WRITE, "a", 1, 6, 7),), "early")
        # What was done at another name is no bar.
        self.check_right(((WRITE, "a", 1, 0, 1), (READ, "b", None, 2, 3)))
        self.check_right(((WRITE, "a", 1, 0, 1), (WRITE, "b", 1, 2, 3), (READ, "b", 1, 4, 5), (READ, "a", 1, 6, 7)))

    def test_strange(self):
        self.check_barred(((WRITE, "a", 1, 0, 1), (READ, "a", 2, 2, 3)), "strange")
        self.check_barred(((WRITE, "b", 2, 0, 1), (READ, "a", 2, 2, 3)), "strange")
        self.check_right(((WRITE, "a", 1, 0, 1), (READ, "a", 2, 2, None)))
        self.check_barred(((READ, "a", 2, 0, None), (READ, "a", 2, 2, 3)), "strange")
        self.check_barred(((WRITE, "a", (1, 7), 0, 1), (READ, "a", (7, 1), 2, 3)), "strange")

    def test_early(self):
        for begin, words in ((5, ()), (7, ("early",)), (2, ())):
            history = ((READ, "a", 1, 3, 6), (WRITE, "a", 1, begin, 20))
            if words:
                self.check_barred(history, *words)
            else:
                self.check_right(history)
        self.check_barred(((READ, "a", 1, 3, 6), (READ, "a", 1, 30, 40), (WRITE, "a", 1, 7, None)), "early")

    def test_late(self):
        # The border: ended just ahead of the begin, just behind it.
        self.check_barred(((WRITE, "a", 1, 0, 5), (READ, "a", None, 6, 9)), "late")
        self.check_right(((WRITE, "a", 1, 0, 7), (READ, "a", None, 6, 9)))
        self.check_right(((WRITE, "a", 1, 0, None), (READ, "a", None, 6, 9)))
        self.check_barred(((WRITE, "a", 1, 0, None), (READ, "a", 1, 3, 5), (READ, "a", None, 6, 9)), "late")
        self.check_right(((WRITE, "a", 1, 0, None), (READ, "a", 1, 3, 7), (READ, "a", None, 6, 9)))
        self.check_right(((WRITE, "a", 1, 0, None), (READ, "a", 1, 3, None), (READ, "a", None, 6, 9)))
        self.check_right(((WRITE, "a", 1, 0, 5), (READ, "a", None, 6, None)))
        self.check_right(((WRITE, "b", 1, 0, 5), (READ, "a", None, 6, 9)))
        self.check_right(((READ, "a", None, 0, 1), (READ, "a", None, 2, 3), (READ, "a", None, -9, 30)))
        self.check_right(((READ, "a", None, 0, 3), (WRITE, "a", 1, 1, 2), (READ, "a", 1, 4, 5)))

    def test_crossed(self):
        writes = ((WRITE, "a", 1, 0, 20), (WRITE, "a", 2, 1, 21))
        self.check_barred(writes + ((READ, "a", 1, 2, 3), (READ, "a", 2, 4, 5), (READ, "a", 1, 6, 7)), "crossed")
        self.check_right(writes + ((READ, "a", 1, 2, 3), (READ, "a", 2, 4, 7), (READ, "a", 1, 6, 8)))
        self.check_right(writes + ((READ, "a", 1, 2, 5), (READ, "a", 2, 4, 6), (READ, "a", 1, 7, 8)))
        self.check_right(writes + ((READ, "a", 1, 2, 3), (READ, "a", 2, 4, 5), (READ, "a", 2, 6, 7)))
        self.check_barred(((WRITE, "a", 1, 0, 1), (WRITE, "a", 2, 2, 3), (READ, "a", 1, 4, 5)), "crossed")
        self.check_right(((WRITE, "a", 1, 0, 1), (WRITE, "a", 2, 2, 5), (READ, "a", 1, 4, 6)))
        self.check_right(((WRITE, "a", 1, 0, 3), (WRITE, "a", 2, 2, 4), (READ, "a", 1, 5, 6)))
        self.check_right(((WRITE, "a", 1, 0, 1), (WRITE, "b", 2, 2, 3), (READ, "a", 1, 4, 5)))

    def test_crossed_by_far(self):
        # The two lots that cross have others between them.
        calls = [(WRITE, "a", k, 10 * k, 10 * k + 5) for k in range(1, 30)] + [(READ, "a", 3, 400, 401)]
        self.check_barred(tuple(calls), "crossed")
        self.check_right(tuple(calls[:-1] + [(READ, "a", 29, 400, 401)]))

    def test_orders_that_begins_do_not_tell(self):
        # The write that began last was the first one.
        self.check_right(((WRITE, "a", 1, 0, 30), (WRITE, "a", 2, 5, 31), (WRITE, "a", 3, 6, 32), (READ, "a", 3, 8, 9),
                          (READ, "a", 2, 10, 11), (READ, "a", 1, 12, 13), (READ, "a", 1, 14, 40)))
        self.check_right(((READ, "a", None, 5, 6), (READ, "a", None, 1, 2), (READ, "a", None, 3, 4), (WRITE, "a", 1, 0, 9)))
        self.check_right(((READ, "a", 1, 5, 6), (READ, "a", 1, 1, 2), (READ, "a", 1, 3, 4), (WRITE, "a", 1, 0, 9)))

    def test_all_short_histories(self):
        draw = random.Random(19)
        seen = {}
        for k in range(2500):
            history = drawn(draw, draw.randrange(6), ("a", "b") if k % 3 == 0 else ("a",), (1, 2), 0.2)
            right = any([told_right(history, order) for order in orders(history)])
            if right:
                self.check_right(history)
            else:
                self.check_barred(history)
            self.assertEqual(bool(bars(history)), not right)
            for found in bars(history):
                self.assertIs(is_bar(history, found), True)
                seen[found[0]] = True
            seen[right] = True
        self.assertEqual(len(seen), 6)

    def test_each_order_of_short_histories(self):
        draw = random.Random(20)
        for _ in range(150):
            history = drawn(draw, 4, ("a", "b"), (1, 2), 0.2)
            for order in orders(history):
                self.assertIs(is_right_order(history, order), told_right(history, order), (history, order))

    def test_drawn_long_histories(self):
        """Reads and writes that did happen in some order have a right one; a read that is spoilt bars it."""
        for seed in range(12):
            draw = random.Random(seed)
            held, running, calls = {}, [], []
            for moment in range(600):
                if len(running) > 5 or running and draw.random() < 0.5:
                    kind, name, told, begin, at = running.pop(draw.randrange(len(running)))
                    # What is neither read nor written as yet happens now, just ahead of its end.
                    if at is None:
                        told, held[name] = (held.get(name), held.get(name)) if kind == READ else (told, told)
                    calls.append((kind, name, told, begin, moment))
                else:
                    kind, name = draw.choice((READ, READ, WRITE)), draw.choice("abc")
                    told, at = moment, None
                    if draw.random() < 0.5:
                        told, held[name] = (held.get(name), held.get(name)) if kind == READ else (told, told)
                        at = moment
                    running.append((kind, name, told, moment, at))
            calls += [call[:4] + (None,) for call in running]
            draw.shuffle(calls)
            self.check_right(tuple(calls))
            reads = [k for k, call in enumerate(calls) if call[0] == READ and call[4] is not None and call[4] > 300]
            for told in (None, -1, 10 ** 6):
                worse = list(calls)
                worse[reads[0]] = spoilt(worse[reads[0]], 2, told)
                self.check_barred(tuple(worse))

    def test_very_long(self):
        calls = []
        for k in range(3000):
            calls += [(WRITE, "ab"[k % 2], k, 10 * k, 10 * k + 5), (READ, "ab"[k % 2], k, 10 * k + 6, 10 * k + 7)]
        self.assertTrue(is_right_order(tuple(calls), right_order(tuple(calls))))
        self.assertIsNone(bar(tuple(calls)))
        calls.append((READ, "a", 10, 10 ** 6, 10 ** 6 + 1))
        self.assertIsNone(right_order(tuple(calls)))
        self.assertIs(is_bar(tuple(calls), bar(tuple(calls))), True)

    def test_what_is_told_may_be_deep(self):
        told = (nested(1, 5), nested(2, 5), (("a", None), ()), "1", 1)
        history = tuple([(WRITE, "a", thing, 10 * k, 10 * k + 1) for k, thing in enumerate(told)])
        reads = tuple([(READ, "a", thing, 10 * k + 2, 10 * k + 3) for k, thing in enumerate(told)])
        self.check_right(history + reads)
        self.check_barred(history + reads[::-1][:1] + ((READ, "a", nested(1, 5), 99, 100),), "crossed")


class TestIsRightOrder(HistoryCase):
    HISTORY = (
        (WRITE, "a", 1, 0, 1), (READ, "a", 1, 2, 3), (WRITE, "b", 5, 4, 5), (READ, "b", None, -2, -1), (WRITE, "a", 2, 6, None),
        (READ, "a", 2, 7, None), (WRITE, "a", 3, 8, None),
    )

    def check(self, thing, wanted, history=None):
        history = self.HISTORY if history is None else history
        before = repr((history, thing))
        for _ in range(2):
            self.assertIs(is_right_order(history, thing), wanted, before[:200])
        self.assertEqual(repr((history, thing)), before)

    def test_good(self):
        for order in ([0, 1, 3, 2], [3, 2, 0, 1], [3, 0, 2, 1], [0, 1, 3, 2, 4], [0, 1, 3, 2, 4, 6], [0, 1, 6, 3, 2, 4],
                      [0, 3, 1, 6, 2]):
            self.check(order, True)

    def test_indexes(self):
        for order in ([0, 1, 3, 2, 0], [0, 1, 3, 2, 2], [0, 0, 1, 3, 2], [0, 1, 3, 2, 7], [0, 1, 3, 2, -1], [0, 1, 3, 2, 100],
                      [-7, 1, 3, 2], [0, 1, 3, 2, None], [0, 1, 3, 2, "4"], [0, 1, 3, 2, (4,)], [0, 1, 3, 2, [4]], ["a"], [{}]):
            self.check(order, False)
        for flags in ([False, True, 3, 2], [0, True, 3, 2], [False, 1, 3, 2], [0, 1, 3, 2, True]):
            self.check(flags, False)

    def test_all_that_have_ended(self):
        for k in range(4):
            self.check([j for j in [0, 1, 3, 2] if j != k], False)
        self.check([], False)
        self.check([4], False)
        self.check([4, 6], False)

    def test_a_read_without_an_end(self):
        self.check([0, 1, 3, 2, 4, 5], False)
        self.check([0, 1, 3, 2, 5], False)

    def test_times(self):
        for order in ([1, 0, 3, 2], [0, 1, 2, 3], [4, 0, 1, 3, 2], [6, 0, 1, 3, 2], [0, 4, 1, 3, 2], [2, 3, 0, 1]):
            self.check(order, False)
        # Between two names the times don't matter.
        two = ((WRITE, "a", 1, 0, 1), (WRITE, "b", 1, 2, 3), (READ, "a", 1, 4, 5))
        self.check([1, 0, 2], True, two)
        self.check([0, 2, 1], True, two)
        self.check([2, 0, 1], False, two)
        # The border: ended just ahead of the begin, or not.
        for end, wanted in ((4, False), (6, True), (None, True)):
            self.check([1, 0], wanted, ((WRITE, "a", 1, 0, end), (WRITE, "a", 2, 5, 9)))
            self.check([0, 1], True, ((WRITE, "a", 1, 0, end), (WRITE, "a", 2, 5, 9)))
        # Also behind a call that began earlier than another one ahead of it.
        self.check([0, 1, 2], False, ((WRITE, "a", 1, 50, 60), (WRITE, "a", 2, 0, 90), (WRITE, "a", 3, 10, 20)))

    def test_what_reads_tell(self):
        history = ((WRITE, "a", 1, 0, 10), (WRITE, "a", 2, 1, 11), (READ, "a", 1, 2, 12), (READ, "a", None, 3, 13))
        for order in itertools.permutations(range(4)):
            self.check(list(order), list(order) in ([3, 0, 2, 1], [3, 1, 0, 2]), history)
        self.check([0, 1], False, ((WRITE, "b", 1, 0, 10), (READ, "a", 1, 1, 9)))
        self.check([1], False, ((WRITE, "a", 1, 0, None), (READ, "a", 1, 1, 9)))
        self.check([0, 1], True, ((WRITE, "a", 1, 0, None), (READ, "a", 1, 1, 9)))

    def test_no_list(self):
        for thing in NO_ORDERS + (tuple([0, 1, 3, 2]), {0: 0, 1: 1}, "0132", [[0, 1, 3, 2]], nested(0, 30), in_lists(0, 30)):
            self.check(thing, False)
        for thing in NO_ORDERS:
            self.check(thing, thing == [] and type(thing) is list, ())


class TestIsBar(HistoryCase):
    HISTORY = (
        (WRITE, "a", 1, 0, 20), (WRITE, "a", 2, 1, 21), (READ, "a", 1, 2, 3), (READ, "a", 2, 4, 5), (READ, "a", 1, 6, 7),
        (READ, "a", None, 8, 9), (READ, "a", 7, 10, None), (READ, "b", None, 8, 9), (READ, "b", 3, -5, -4), (WRITE, "b", 3, 0, None),
        (READ, "b", 9, 30, 31), (READ, "a", None, -9, -8), (READ, "a", 1, 40, None), (READ, "a", None, 41, None),
        (WRITE, "c", 1, 0, 1), (READ, "c", None, 2, 3),
    )

    def check(self, thing, wanted, history=None):
        history = self.HISTORY if history is None else history
        before = repr((history, thing))
        for _ in range(2):
            self.assertIs(is_bar(history, thing), wanted, before[:200])
        self.assertEqual(repr((history, thing)), before)

    def test_good(self):
        for thing in (("strange", 10), ("early", 8), ("late", 2, 5), ("late", 3, 5), ("late", 4, 5), ("late", 14, 15),
                      ("crossed", 2, 4, 3, 3), ("crossed", 3, 3, 4, 2)):
            self.check(thing, True)

    def test_each_bar_of_one_or_two(self):
        many = len(self.HISTORY)
        for word in ("strange", "early"):
            for r in range(many):
                self.check((word, r), told_bar(self.HISTORY, (word, r)))
        for c, r in itertools.product(range(many), repeat=2):
            self.check(("late", c, r), told_bar(self.HISTORY, ("late", c, r)))

    def test_each_crossed(self):
        for indexes in itertools.product(range(12), repeat=4):
            thing = ("crossed",) + indexes
            self.assertIs(is_bar(self.HISTORY, thing), told_bar(self.HISTORY, thing), thing)

    def test_crossed_borders(self):
        for end, wanted in ((3, True), (5, False), (None, False)):
            # a ended ahead of c's begin, 4, and d ahead of b's.
            history = ((WRITE, "a", 1, 0, end), (WRITE, "a", 2, 4, 6), (READ, "a", 1, 7, 8))
            self.check(("crossed", 0, 2, 1, 1), wanted, history)
        for begin, wanted in ((7, True), (5, False)):
            history = ((WRITE, "a", 1, 0, 3), (WRITE, "a", 2, 4, 6), (READ, "a", 1, begin, 8))
            self.check(("crossed", 0, 2, 1, 1), wanted, history)
            self.check(("crossed", 1, 1, 2, 0), wanted, history)
            self.check(("crossed", 2, 0, 1, 1), False, history)

    def test_told_alike_or_none(self):
        history = ((WRITE, "a", 1, 0, 1), (READ, "a", 1, 2, 3), (READ, "a", 1, 4, 5), (READ, "a", None, 6, 7), (READ, "a", None, 8, 9),
                   (READ, "b", 1, 12, 13))
        self.check(("crossed", 0, 2, 1, 1), False, history)
        self.check(("crossed", 0, 0, 3, 3), False, history)
        self.check(("crossed", 3, 4, 0, 2), False, history)
        self.check(("late", 3, 4), False, history)
        self.check(("late", 2, 3), True, history)
        self.check(("late", 2, 1), False, history)
        self.check(("strange", 3), False, history)
        self.check(("early", 3), False, history)
        self.check(("strange", 5), True, history)

    def test_unlike_names(self):
        history = ((WRITE, "a", 1, 0, 1), (READ, "b", None, 9, 10), (WRITE, "b", 2, 2, 4), (READ, "a", 1, 5, 6))
        self.check(("late", 0, 1), False, history)
        self.check(("crossed", 0, 3, 2, 2), False, history)
        self.check(("early", 0), False, history)
        self.check(("strange", 0), False, history)
        same = tuple([call[:1] + ("a",) + call[2:] for call in history])
        self.check(("late", 0, 1), True, same)
        self.check(("crossed", 0, 3, 2, 2), True, same)

    def test_reads_that_never_ended(self):
        self.check(("strange", 6), False)
        self.check(("late", 2, 13), False)
        self.check(("crossed", 2, 12, 3, 3), False)
        self.check(("strange", 0), False, ((READ, "a", 1, 0, None),))
        self.check(("strange", 0), True, ((READ, "a", 1, 0, 1),))

    def test_no_tuple_or_word(self):
        for thing in STRANGE + NO_INTEGERS + (None,):
            self.check(thing, False)
            self.check((thing,), False)
            self.check((thing, 10), False)
        for thing in (["strange", 10], ("Strange", 10), ("stranger", 10), ("", 10), ("strange",), ("strange", 10, 10), ("late", 2),
                      ("late", 2, 5, 5), ("early", 8, 8), ("crossed", 2, 4, 3), ("crossed", 2, 4, 3, 3, 3), ("strange", (10,)),
                      (("strange", 10),), ("late", (2, 5)), "strange", ("crossed", (2, 4, 3, 3)), (["strange"], 10)):
            self.check(thing, False)

    def test_indexes(self):
        for index in NO_INTEGERS + (-1, -6, 16, 10 ** 29):
            for thing in (("strange", index), ("early", index), ("late", index, 5), ("late", 2, index), ("crossed", index, 4, 3, 3),
                          ("crossed", 2, index, 3, 3), ("crossed", 2, 4, index, 3), ("crossed", 2, 4, 3, index)):
                self.check(thing, False)
        self.check(("strange", False), False, ((READ, "a", 1, 0, 1),))
        self.check(("late", False, True), False, ((WRITE, "a", 1, 0, 1), (READ, "a", None, 2, 3)))
        self.check(("late", 0, 1), True, ((WRITE, "a", 1, 0, 1), (READ, "a", None, 2, 3)))
        self.check(("strange", 0), False, ())

    def test_of_histories_with_a_right_order(self):
        history = ((WRITE, "a", 1, 0, 1), (READ, "a", 1, 2, 3), (WRITE, "b", 2, 2, None), (READ, "b", None, 5, 6))
        for word, size in BAR_SIZES.items():
            for indexes in itertools.product(range(4), repeat=size):
                self.check((word,) + indexes, False, history)
        self.check(None, False, history)


class TestNoHistory(HistoryCase):
    WRONGS = tuple([thing for thing in STRANGE + NO_INTEGERS if thing != ()]) + (
        [GOOD], (GOOD, GOOD), (spoilt(GOOD, 2, None),), (list(GOOD),), (spoilt(GOOD, 4, 0),), (GOOD, (READ, "a", None, 3, 9)),
        None, GOOD, (spoilt(GOOD, 0, "lease"),),
    )

    def check_refused(self, function, *arguments):
        before = repr(arguments)
        for _ in range(2):
            with self.assertRaises(HomeError) as caught:
                function(*arguments)
            self.assertIs(type(caught.exception), NoHistory)
        self.assertEqual(repr(arguments), before)

    def test_each(self):
        for thing in self.WRONGS:
            self.check_refused(right_order, thing)
            self.check_refused(bar, thing)
            for other in ([], [0], None, ("strange", 0), 5, "x", [True], {}, nested(0, 30)):
                self.check_refused(is_right_order, thing, other)
                self.check_refused(is_bar, thing, other)

    def test_lists_stay_as_they_are(self):
        history, order = [GOOD, [1]], [0, [1]]
        before = copy.deepcopy((history, order))
        self.check_refused(is_right_order, history, order)
        self.assertIs(is_right_order((GOOD,), order), False)
        self.assertEqual((history, order), before)


if __name__ == "__main__":
    unittest.main()
