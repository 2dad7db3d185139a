"""Lots of numbers told by few values: what parts two lots is found from values of them at some places."""

from homeshold.basics import is_ascending, is_count, is_integer, is_name, is_stamp
from homeshold.errors import NoName, NoNumber, NoNumbers, NoPlaces, NoPolynomial, NoPrime, NoStamp, NoValues
from homeshold.polynomials import common_factor, divided, solved, worth_at

GREAT_PRIME = 618970019642690137449562111
SMALL_PRIMES = 10000
# Each number below 10000 that is no prime has a divisor below this.
DIVISORS = 100
MOST_NUMBERS = 200
MOST_PLACES = 64
MOST_DEGREE = 64
LETTERS = "abcdefghijklmnopqrstuvwxyz"


def is_prime(thing):
    """Whether this is a prime below 10000, or the great one, 2 ** 89 - 1."""
    if not is_integer(thing) or thing < 2:
        return False
    if thing >= SMALL_PRIMES:
        return thing == GREAT_PRIME
    return all([thing % k != 0 for k in range(2, DIVISORS) if k < thing])


def is_below(prime, thing):
    """Whether this is an integer from 0 on below the prime."""
    return is_count(thing) and thing < prime


def is_lot(prime, thing):
    """Whether this is a lot of numbers below the prime."""
    if not isinstance(thing, tuple) or len(thing) > MOST_NUMBERS:
        return False
    return all([is_below(prime, number) for number in thing]) and is_ascending(thing)


def is_places(prime, lot, thing):
    """Whether these are places, unlike each other and all numbers of the lot."""
    if not isinstance(thing, tuple) or len(thing) > MOST_PLACES:
        return False
    if not all([is_below(prime, place) and place not in lot for place in thing]):
        return False
    return len(set(thing)) == len(thing)


def is_polynomial(prime, thing):
    """Whether this is a polynomial of degree at most 64."""
    if not isinstance(thing, tuple) or not 1 <= len(thing) <= MOST_DEGREE + 1:
        return False
    return all([is_below(prime, part) for part in thing]) and thing[-1] == 1


def is_values(prime, places, thing):
    """Whether these are values, none of them 0, one for each place."""
    if not isinstance(thing, tuple) or len(thing) != len(places):
        return False
    return all([is_below(prime, value) and value > 0 for value in thing])


def values(prime, lot, places):
    """The tuple of the values of a lot at places."""
    if not is_prime(prime):
        raise NoPrime()
    if not is_lot(prime, lot):
        raise NoNumbers()
    if not is_places(prime, lot, places):
        raise NoPlaces()
    return values_of(prime, lot, places)


def values_of(prime, lot, places):
    """The values of a lot at places: what they are isn't checked."""
    return tuple([_value(prime, lot, place) for place in places])


def _value(prime, lot, place):
    found = 1
    for number in lot:
        found = found * (place - number) % prime
    return found


def roots(prime, polynomial, lot):
    """The tuple of the numbers of a lot at which a polynomial is nought."""
    if not is_prime(prime):
        raise NoPrime()
    if not is_polynomial(prime, polynomial):
        raise NoPolynomial()
    if not is_lot(prime, lot):
        raise NoNumbers()
    return roots_of(prime, polynomial, lot)


def roots_of(prime, polynomial, lot):
    """The numbers of a lot at which a polynomial is nought: what they are isn't checked."""
    return tuple([number for number in lot if worth_at(polynomial, number, prime) == 0])


def difference(prime, own, many, places, told, most):
    """The pair of polynomials that tells what parts another lot from the own one, None if there is none."""
    if not is_prime(prime):
        raise NoPrime()
    if not is_lot(prime, own):
        raise NoNumbers()
    if not is_count(many) or many > MOST_NUMBERS:
        raise NoNumber()
    if not is_places(prime, own, places):
        raise NoPlaces()
    if not is_values(prime, places, told):
        raise NoValues()
    if not is_count(most) or most > len(places):
        raise NoNumber()
    return difference_of(prime, own, many, places, told, most)


def difference_of(prime, own, many, places, told, most):
    """The pair of difference: what the arguments are isn't checked."""
    more = many - len(own)
    if abs(more) > most:
        return None
    here = values_of(prime, own, places)
    # With the greatest degrees that most lets, a pair of lesser ones is found with a common factor.
    degree = (most - more) // 2
    wide, narrow = _fraction(prime, degree + more, degree, places, here, told)
    above, below = _reduced(prime, wide, narrow)
    # Perhaps nothing solved the equations, or they told nothing as the common factor was nought there.
    for place, own_value, other in zip(places, here, told):
        left = worth_at(above, place, prime) * own_value
        right = worth_at(below, place, prime) * other
        if (left - right) % prime != 0:
            return None
    if len(roots_of(prime, below, own)) != len(below) - 1:
        return None
    return tuple(above), tuple(below)


def _fraction(prime, high, low, places, here, told):
    """Two polynomials, of degrees high and low, whose quotient is told by here at all places, if there are such."""
    rows = []
    for place, own_value, other in zip(places, here, told):
        powers = _powers(prime, place, max(high, low))
        row = [powers[k] * own_value % prime for k in range(high)]
        row += [-powers[k] * other % prime for k in range(low)]
        row.append((powers[low] * other - powers[high] * own_value) % prime)
        rows.append(row)
    found = solved(rows, high + low, prime)
    return found[:high] + [1], found[high:] + [1]


def _powers(prime, place, most):
    """The powers of a place, from the one with the exponent 0 to that with the exponent most."""
    found = [1]
    for _ in range(most):
        found.append(found[-1] * place % prime)
    return found


def _reduced(prime, above, below):
    """Two polynomials without their common factor."""
    common = common_factor(above, below, prime)
    upper, _ = divided(above, common, prime)
    lower, _ = divided(below, common, prime)
    return upper, lower


def number_of(name, stamp):
    """The number that tells a name and a stamp."""
    if not is_name(name):
        raise NoName()
    if not is_stamp(stamp):
        raise NoStamp()
    return number_at(name, stamp)


def number_at(name, stamp):
    """The number that tells a name and a stamp: what they are isn't checked."""
    word = 0
    for letter in name:
        word = word * 27 + LETTERS.index(letter) + 1
    return 10 ** 8 * word + 100 * stamp[0] + stamp[1]
