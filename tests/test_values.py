"""[15]: lots of numbers told by few values."""

import copy
import itertools
import random
import unittest

from homeshold.errors import (
    HomeError, NoName, NoNumber, NoNumbers, NoPlaces, NoPolynomial, NoPrime, NoStamp, NoValues,
)
from homeshold.values import difference, number_of, roots, values
from samples import NO_INTEGERS, NO_NAMES, NO_STAMPS, in_lists, nested

GREAT = 2 ** 89 - 1
PRIMES = (2, 3, 5, 97, 101, 9973, GREAT)
NO_PRIMES = NO_INTEGERS + (
    -7, -2, -1, 0, 1, 4, 6, 9, 15, 25, 49, 121, 91, 9409, 97 * 103, 9971, 9999, 10000, 10007, 10 ** 29, GREAT - 2, GREAT + 2,
    2 ** 61 - 1, 2 ** 89, GREAT - 1, -GREAT,
)
NO_TUPLES = (None, 0, True, "", "1", [], [1], {}, {1: 1}, HomeError(), in_lists(1, 30))


def product(prime, numbers):
    """The polynomial whose roots are these numbers, each as often as it is there."""
    found = [1]
    for number in numbers:
        higher = [0] + found
        for k, part in enumerate(found):
            higher[k] = (higher[k] - number * part) % prime
        found = higher
    return tuple(found)


def worth(prime, polynomial, place):
    return sum([part * place ** k for k, part in enumerate(polynomial)]) % prime


def multiplied(prime, one, other):
    found = [0] * (len(one) + len(other) - 1)
    for k, part in enumerate(one):
        for j, another in enumerate(other):
            found[k + j] = (found[k + j] + part * another) % prime
    return tuple(found)


def is_pair(prime, own, many, places, told, most, pair):
    """Whether a pair of polynomials has what the point says, but for common factors that have no root."""
    f, g = pair
    if len(f) != len(g) + many - len(own) or len(f) + len(g) - 2 > most:
        return False
    here = values(prime, own, places)
    for place, own_value, other in zip(places, here, told):
        if worth(prime, f, place) * own_value % prime != worth(prime, g, place) * other % prime:
            return False
    return len([number for number in own if worth(prime, g, number) == 0]) == len(g) - 1


def all_polynomials(prime, degree):
    for parts in itertools.product(range(prime), repeat=degree):
        yield tuple(parts) + (1,)


def common_degree(prime, one, other):
    """The degree of the greatest common factor, by trying all factors."""
    for degree in range(min(len(one), len(other)) - 1, 0, -1):
        for factor in all_polynomials(prime, degree):
            if divides(prime, factor, one) and divides(prime, factor, other):
                return degree
    return 0


def divides(prime, factor, polynomial):
    left = list(polynomial)
    while len(left) >= len(factor):
        leading = left[-1]
        for k, part in enumerate(factor):
            left[len(left) - len(factor) + k] = (left[len(left) - len(factor) + k] - leading * part) % prime
        left.pop()
    return not any(left)


def all_pairs(prime, own, many, places, told, most):
    """All pairs that the point lets, by trying all polynomials: of small primes only."""
    found = []
    for low in range(most + 1):
        high = low + many - len(own)
        if high < 0 or low + high > most:
            continue
        for f, g in itertools.product(all_polynomials(prime, high), all_polynomials(prime, low)):
            if is_pair(prime, own, many, places, told, most, (f, g)) and common_degree(prime, f, g) == 0:
                found.append((f, g))
    return found


class ValuesCase(unittest.TestCase):
    def check_refused(self, error, function, *arguments):
        before = repr(arguments)
        for _ in range(2):
            with self.assertRaises(HomeError) as caught:
                function(*arguments)
            self.assertIs(type(caught.exception), error, before[:300])
        self.assertEqual(repr(arguments), before)


class TestValues(ValuesCase):
    def test_told(self):
        self.assertEqual(values(97, (3, 5), (10, 1, 96)), ((7 * 5) % 97, (-2 * -4) % 97, (-4 * -6) % 97))
        self.assertEqual(values(2, (1,), (0,)), (1,))
        self.assertEqual(values(2, (0,), (1,)), (1,))
        self.assertEqual(values(3, (0, 1), (2,)), (2,))
        self.assertEqual(values(GREAT, (0, 1), (GREAT - 1,)), (2,))

    def test_empty(self):
        for prime in PRIMES:
            self.assertEqual(values(prime, (), ()), ())
            self.assertEqual(values(prime, (), (0, 1)), (1, 1))
            self.assertEqual(values(prime, (1,), ()), ())
            self.assertIs(type(values(prime, (), ())), tuple)

    def test_drawn(self):
        dice = random.Random(5)
        for prime in PRIMES:
            for _ in range(20):
                drawn = dice.sample(range(min(prime, 10 ** 9)), min(prime, dice.randrange(2, 60)))
                split = dice.randrange(len(drawn))
                lot, places = tuple(sorted(drawn[:split])), tuple(drawn[split:])
                wanted = []
                for place in places:
                    found = 1
                    for number in lot:
                        found *= place - number
                    wanted.append(found % prime)
                for _ in range(2):
                    self.assertEqual(values(prime, lot, places), tuple(wanted))
                self.assertTrue(all([0 < value < prime for value in wanted]))

    def test_as_many_as_can_be(self):
        for prime in (9973, GREAT):
            lot = tuple(range(0, 400, 2))
            places = tuple(range(prime - 64, prime))
            found = values(prime, lot, places)
            self.assertEqual(found, tuple([worth(prime, product(prime, lot), place) for place in places]))
            self.check_refused(NoNumbers, values, prime, lot + (401,), places)
            self.check_refused(NoPlaces, values, prime, lot, places + (1,))

    def test_primes(self):
        for prime in range(2, 10000):
            if all([prime % k for k in range(2, int(prime ** 0.5) + 1)]):
                self.assertEqual(values(prime, (0,), (1,)), (1,))
            else:
                self.check_refused(NoPrime, values, prime, (0,), (1,))

    def test_errors(self):
        good_lot, good_places = (0, 2), (1, 4)
        wrong_lots = NO_TUPLES + (
            (2, 0), (0, 0), (0, 2, 2), (-1, 0), (0, 97), (97,), (True,), (0, True), (None,), ("1",), ((1,),), (0, [1]),
            nested(1, 30), tuple(range(97)) * 3, 0, 5,
        )
        wrong_places = NO_TUPLES + (
            (1, 1), (1, 4, 1), (-1,), (97,), (1, 98), (True,), (False,), (None,), ("1",), ((1,),), ([1],), (0,), (1, 2), nested(1, 30),
            tuple(range(3, 68)), 0, 5,
        )
        for prime in NO_PRIMES:
            for lot in (good_lot,) + wrong_lots[:3]:
                self.check_refused(NoPrime, values, prime, lot, good_places)
                self.check_refused(NoPrime, values, prime, lot, None)
        for lot in wrong_lots:
            for places in (good_places,) + wrong_places[:3]:
                self.check_refused(NoNumbers, values, 97, lot, places)
        for places in wrong_places:
            self.check_refused(NoPlaces, values, 97, good_lot, places)
        self.check_refused(NoNumbers, values, 2, (2,), (0,))
        self.check_refused(NoPlaces, values, 2, (), (2,))
        self.assertEqual(values(97, (), tuple(range(3, 67))), (1,) * 64)


class TestRoots(ValuesCase):
    def test_told(self):
        for prime in PRIMES:
            self.assertEqual(roots(prime, (1,), (0, 1)), ())
            self.assertEqual(roots(prime, (0, 1), (0, 1)), (0,))
            self.assertEqual(roots(prime, (0, 1), ()), ())
            self.assertEqual(roots(prime, (0, 1), (1,)), ())
            self.assertIs(type(roots(prime, (1,), ())), tuple)
        self.assertEqual(roots(97, (4, 96, 0, 1), (0,)), ())

    def test_drawn_factors(self):
        dice = random.Random(6)
        for prime in (97, 9973, GREAT):
            for _ in range(30):
                drawn = dice.sample(range(min(prime, 10 ** 9)), 60)
                lot, others = tuple(sorted(drawn[:30])), drawn[30:]
                inside = dice.sample(lot, dice.randrange(12))
                factors = inside + dice.sample(others, dice.randrange(12)) + inside[:dice.randrange(3)]
                self.assertEqual(roots(prime, product(prime, factors), lot), tuple(sorted(inside)))

    def test_a_root_twice(self):
        for prime in (5, 97, GREAT):
            self.assertEqual(roots(prime, product(prime, (3, 3, 1)), (0, 1, 2, 3)), (1, 3))
            self.assertEqual(roots(prime, product(prime, (3,) * 10), (3, 4)), (3,))

    def test_factors_without_roots(self):
        self.assertEqual(roots(3, (1, 0, 1), (0, 1, 2)), ())
        self.assertEqual(roots(3, multiplied(3, (1, 0, 1), (1, 1)), (0, 1, 2)), (2,))
        self.assertEqual(roots(2, (0, 1, 1), (0, 1)), (0, 1))

    def test_degree_64(self):
        for prime in (97, GREAT):
            factor = product(prime, tuple(range(64)))
            self.assertEqual(len(factor), 65)
            self.assertEqual(roots(prime, factor, tuple(range(50, 90))), tuple(range(50, 64)))
            self.check_refused(NoPolynomial, roots, prime, product(prime, tuple(range(65))), (0,))

    def test_lots_of_200(self):
        lot = tuple(range(0, 1000, 5))
        self.assertEqual(roots(9973, product(9973, (5, 7, 995, 1000)), lot), (5, 995))
        self.check_refused(NoNumbers, roots, 9973, (1,), lot + (1000,))

    def test_errors(self):
        wrongs = NO_TUPLES + (
            (), (0,), (2,), (1, 0), (1, 2), (0, 0), (97, 1), (-1, 1), (1, 97), (True,), (1, True), (False, 1), (None, 1), ("1", 1),
            ((1,), 1), ([1], 1), (1, None), nested(1, 30), (1,) * 66, 5,
        )
        for prime in NO_PRIMES:
            for polynomial in ((0, 1), (), None):
                self.check_refused(NoPrime, roots, prime, polynomial, (0,))
        for polynomial in wrongs:
            for lot in ((0, 1), None, (1, 0)):
                self.check_refused(NoPolynomial, roots, 97, polynomial, lot)
        for lot in NO_TUPLES + ((1, 0), (0, 0), (97,), (-1,), (True,), ((1,),), tuple(range(97)) * 3):
            self.check_refused(NoNumbers, roots, 97, (0, 1), lot)
        self.assertEqual(roots(97, (1,) * 65, (1,)), ())


class TestDifference(ValuesCase):
    def parted(self, prime, own, other, many_places, most):
        """What difference tells of another lot, at places that are in neither of both."""
        taken = set(own) | set(other)
        places = []
        place = prime - 1
        while len(places) < many_places:
            if place not in taken:
                places.append(place)
            place -= 1
        told = values(prime, other, tuple(places))
        found = difference(prime, own, len(other), tuple(places), told, most)
        self.assertEqual(found, difference(prime, own, len(other), tuple(places), told, most))
        return found

    def wanted(self, prime, own, other):
        more = tuple([number for number in other if number not in own])
        less = tuple([number for number in own if number not in other])
        return product(prime, more), product(prime, less)

    def draw(self, dice, prime, common, more, less):
        drawn = dice.sample(range(min(prime, 10 ** 12) - 70), common + more + less)
        own = tuple(sorted(drawn[:common + less]))
        return own, tuple(sorted(drawn[:common] + drawn[common + less:]))

    def test_alike(self):
        for prime in (97, 9973, GREAT):
            for own in ((), (0,), (3, 8, 9), tuple(range(20))):
                for many, most in ((0, 0), (1, 0), (1, 1), (5, 3), (5, 5), (64, 64)):
                    if len(own) + many <= prime:
                        self.assertEqual(self.parted(prime, own, own, many, most), ((1,), (1,)))

    def test_told(self):
        self.assertEqual(self.parted(97, (1, 2), (1, 2, 5), 1, 1), ((92, 1), (1,)))
        self.assertEqual(self.parted(97, (1, 2, 5), (1, 2), 1, 1), ((1,), (92, 1)))
        self.assertEqual(self.parted(97, (1, 2), (1, 5), 2, 2), ((92, 1), (95, 1)))
        self.assertEqual(self.parted(97, (), (5,), 1, 1), ((92, 1), (1,)))
        self.assertIsNone(self.parted(97, (1, 2), (1, 5), 2, 1))
        self.assertIsNone(self.parted(97, (1, 2), (1, 5), 2, 0))

    def test_drawn(self):
        dice = random.Random(7)
        for prime in (9973, GREAT):
            for _ in range(60):
                more, less = dice.randrange(6), dice.randrange(6)
                own, other = self.draw(dice, prime, dice.randrange(20), more, less)
                most = more + less + dice.randrange(3)
                found = self.parted(prime, own, other, most + dice.randrange(3), most)
                self.assertEqual(found, self.wanted(prime, own, other))
                self.assertIs(type(found[0]), tuple)
                self.assertEqual(roots(prime, found[0], other), tuple([n for n in other if n not in own]))
                self.assertEqual(roots(prime, found[1], own), tuple([n for n in own if n not in other]))

    def test_unlike_in_just_most_and_in_one_more(self):
        dice = random.Random(8)
        for prime in (9973, GREAT):
            for more, less in ((0, 1), (1, 0), (1, 1), (3, 0), (0, 3), (2, 3), (4, 4), (7, 2), (0, 12), (12, 0)):
                own, other = self.draw(dice, prime, 15, more, less)
                wanted = self.wanted(prime, own, other)
                for extra in (0, 1, 2):
                    self.assertEqual(self.parted(prime, own, other, more + less + extra, more + less), wanted)
                    # With one more that parts them than most there is no such pair.
                    self.assertIsNone(self.parted(prime, own, other, more + less + extra, more + less - 1))
                    if more + less > 1:
                        self.assertIsNone(self.parted(prime, own, other, more + less - 1 + extra, more + less - 2))

    def test_as_many_as_the_last_fact_covers(self):
        # With n places most + s may be 2 n: nothing but what parts them, or None.
        dice = random.Random(12)
        for prime in (9973, GREAT):
            for many in (1, 2, 3, 4, 6, 8):
                for most in range(many + 1):
                    for unlike in range(2 * many - most + 1):
                        more = dice.randrange(unlike + 1)
                        own, other = self.draw(dice, prime, 5, more, unlike - more)
                        wanted = self.wanted(prime, own, other) if unlike <= most else None
                        self.assertEqual(self.parted(prime, own, other, many, most), wanted)

    def test_all_numbers_of_small_primes(self):
        dice = random.Random(13)
        for prime, most_places in ((2, 2), (3, 3), (5, 4)):
            for _ in range(40):
                numbers = list(range(prime))
                dice.shuffle(numbers)
                places = tuple(numbers[:dice.randrange(min(prime, most_places) + 1)])
                own = tuple(sorted(dice.sample(numbers[len(places):], dice.randrange(prime - len(places) + 1))))
                told = tuple([dice.randrange(1, prime) for _ in places])
                many = dice.randrange(5)
                for most in range(len(places) + 1):
                    pairs = all_pairs(prime, own, many, places, told, most)
                    self.assertLessEqual(len(pairs), 1)
                    found = difference(prime, own, many, places, told, most)
                    self.assertEqual(found, pairs[0] if pairs else None, (prime, own, many, places, told, most))

    def test_forged(self):
        dice = random.Random(14)
        found = []
        for prime in (97, GREAT):
            for _ in range(40):
                own = tuple(sorted(dice.sample(range(50), 6)))
                places = tuple(dice.sample(range(60, 90), 6))
                told = tuple([dice.randrange(1, prime) for _ in places])
                many = dice.randrange(4, 9)
                pair = difference(prime, own, many, places, told, 6)
                self.assertEqual(pair, difference(prime, own, many, places, told, 6))
                if pair is not None:
                    found.append(pair)
                    self.assertTrue(is_pair(prime, own, many, places, told, 6, pair))
                    self.assertFalse([k for k in range(97) if worth(prime, pair[0], k) == worth(prime, pair[1], k) == 0])
                self.assertIsNone(difference(GREAT, own, many, places, told, 2))

    def test_polynomials_without_roots(self):
        # f may have factors that have no root; g may not.
        own, places = (0, 1), (2, 3, 4, 5)
        f = (3, 0, 1)
        self.assertFalse([k for k in range(7) if worth(7, f, k) == 0 and k != 2 and k != 5])
        self.assertEqual([k for k in range(11) if worth(11, (1, 0, 1), k) == 0], [])
        here = values(11, own, places)
        told = tuple([worth(11, (1, 0, 1), place) * value % 11 for place, value in zip(places, here)])
        self.assertEqual(difference(11, own, 4, places, told, 2), ((1, 0, 1), (1,)))
        inverse = tuple([value * pow(worth(11, (1, 0, 1), place), 9, 11) % 11 for place, value in zip(places, here)])
        self.assertIsNone(difference(11, own, 0, places, inverse, 2))
        # Nor has g a root that own hasn't, or one of own's twice.
        for outside, wanted in (((6,), None), ((0,), ((1,), (0, 1))), ((0, 0), None), ((0, 1), ((1,), product(11, (0, 1))))):
            g = product(11, outside)
            told = tuple([value * pow(worth(11, g, place), 9, 11) % 11 for place, value in zip(places, here)])
            self.assertEqual(difference(11, own, 2 - len(outside), places, told, 2), wanted)

    def test_no_places(self):
        for prime in PRIMES:
            for own in ((), (1,), (0, 1)):
                for many in range(4):
                    wanted = ((1,), (1,)) if many == len(own) else None
                    self.assertEqual(difference(prime, own, many, (), (), 0), wanted)

    def test_most_0(self):
        self.assertEqual(difference(97, (1, 2), 2, (5, 6), values(97, (1, 2), (5, 6)), 0), ((1,), (1,)))
        self.assertIsNone(difference(97, (1, 2), 2, (5, 6), (1, 1), 0))
        self.assertIsNone(difference(97, (1, 2), 3, (5, 6), values(97, (1, 2, 3), (5, 6)), 0))

    def test_as_many_as_can_be(self):
        own = tuple(range(0, 400, 2))
        other = tuple(range(1, 65, 2)) + own[32:]
        other = tuple(sorted(other))
        self.assertEqual(len(other), 200)
        self.assertEqual(self.parted(GREAT, own, other, 64, 64), self.wanted(GREAT, own, other))
        self.assertEqual(self.parted(GREAT, own, own[:136], 64, 64), self.wanted(GREAT, own, own[:136]))
        self.assertIsNone(self.parted(GREAT, own, own[:135], 64, 64))
        self.assertIsNone(self.parted(GREAT, (), own, 64, 64))

    def test_the_common_factor_may_be_nought_at_a_place(self):
        # f and g of degree 1 with a root at a place fit there whatever is told.
        prime, own, places = 97, (1, 2), (5, 6)
        here = values(prime, own, places)
        self.assertIsNone(difference(prime, own, 2, places, (here[0], here[1] * 3 % prime), 1))
        dice = random.Random(15)
        for _ in range(200):
            told = tuple([dice.choice((value, dice.randrange(1, prime))) for value in here])
            pair = difference(prime, own, 2, places, told, 2)
            if pair is not None:
                self.assertTrue(is_pair(prime, own, 2, places, told, 2, pair))

    def test_errors(self):
        good = (97, (1, 2), 2, (5, 6), (3, 4), 2)
        self.assertIsNone(difference(97, (1, 2), 2, (5, 6), (3, 4), 1))
        no_counts = NO_INTEGERS + (-1, -5)
        wrongs = (
            (NoPrime, NO_PRIMES),
            (NoNumbers, NO_TUPLES + ((2, 1), (1, 1), (97,), (-1,), (True, 2), (None,), tuple(range(97)) * 3, nested(1, 30))),
            (NoNumber, no_counts + (201, 10 ** 29)),
            (NoPlaces, NO_TUPLES + ((5, 5), (1,), (5, 2), (97,), (-1,), (True,), (None,), ("5",), tuple(range(3, 68)), nested(5, 30))),
            (NoValues, NO_TUPLES + ((), (3,), (3, 4, 5), (0, 3), (3, 0), (97, 3), (3, -1), (True, 3), (None, 3), ((3,), 4), ("3", 4))),
            (NoNumber, no_counts + (3, 64, 10 ** 29)),
        )
        for at, (error, parts) in enumerate(wrongs):
            for part in parts:
                arguments = good[:at] + (part,) + good[at + 1:]
                self.check_refused(error, difference, *arguments)
                # What stands behind is wrong, too: the first one that is due is raised.
                self.check_refused(error, difference, *(good[:at] + (part,) + (None,) * (5 - at)))
                self.check_refused(error, difference, *(good[:at] + (part,) + ((-1, -1),) * (5 - at)))
        for many in (0, 1, 199, 200):
            difference(97, (1, 2), many, (5, 6), (3, 4), 2)
        for most in (0, 1, 2):
            difference(97, (1, 2), 2, (5, 6), (3, 4), most)

    def test_no_argument_changes(self):
        for arguments in (([97], [1], 2, [5], [3], 1), (97, [1, [2]], {}, [], {"a": [1]}, 1), (97, (1,), 1, (5,), [3, [4]], 1)):
            before = copy.deepcopy(arguments)
            with self.assertRaises(HomeError):
                difference(*arguments)
            self.assertEqual(arguments, before)


class TestNumberOf(ValuesCase):
    def test_told(self):
        for name, word in (("a", 1), ("b", 2), ("z", 26), ("aa", 28), ("az", 27 + 26), ("ba", 55), ("zz", 26 * 28),
                           ("zzzzzzzz", 27 ** 8 - 1), ("aaaaaaaa", sum([27 ** k for k in range(8)])), ("ab", 29), ("abc", 27 * 29 + 3)):
            for number, hand in ((0, 0), (1, 1), (1, 99), (2, 1), (999999, 99), (10 ** 12 - 1, 99), (10 ** 6, 1)):
                found = number_of(name, (number, hand))
                self.assertEqual(found, 10 ** 8 * word + 100 * number + hand)
                self.assertIs(type(found), int)

    def test_unlike(self):
        pairs = [(name, (number, hand)) for name in ("a", "b", "z", "aa", "az", "ba", "zz", "aaa", "zzzzzzzz", "zzzzzzzy")
                 for number in (1, 2, 99, 100, 101, 999999) for hand in (1, 2, 10, 99)]
        self.assertEqual(len(set([number_of(name, stamp) for name, stamp in pairs])), len(pairs))

    def test_errors(self):
        for name in NO_NAMES:
            for stamp in ((1, 1), None, (0, 1)):
                self.check_refused(NoName, number_of, name, stamp)
        for stamp in NO_STAMPS:
            self.check_refused(NoStamp, number_of, "a", stamp)


if __name__ == "__main__":
    unittest.main()
