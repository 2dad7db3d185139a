"""Polynomials modulo a prime: lists of their coefficients, the constant one first, the leading one not 0.

The list without items is nought.
"""


def inverse(number, prime):
    """The number that gives 1 with this one, which is no multiple of the prime."""
    high, low = prime, number % prime
    before, found = 0, 1
    while low != 1:
        many = high // low
        high, low = low, high - many * low
        before, found = found, before - many * found
    return found % prime


def worth_at(polynomial, place, prime):
    """What a polynomial is at a place."""
    found = 0
    for k in range(len(polynomial)):
        found = (found * place + polynomial[-1 - k]) % prime
    return found


def divided(polynomial, other, prime):
    """The pair of the quotient by another polynomial, whose leading coefficient is 1, and what is left."""
    left = list(polynomial)
    quotient = []
    for k in range(len(polynomial) - len(other) + 1):
        leading = left.pop()
        quotient.append(leading)
        # The leading one is gone already, so the other one's leading 1 takes no part.
        for j in range(1, len(other)):
            left[-j] = (left[-j] - leading * other[-1 - j]) % prime
    return quotient[::-1], stripped(left)


def stripped(polynomial):
    """The polynomial without leading noughts."""
    many = len(polynomial)
    while many > 0 and polynomial[many - 1] == 0:
        many -= 1
    return polynomial[:many]


def monic(polynomial, prime):
    """The multiple of a polynomial, which isn't nought, whose leading coefficient is 1."""
    worth = inverse(polynomial[-1], prime)
    return [part * worth % prime for part in polynomial]


def common_factor(polynomial, other, prime):
    """The greatest common factor of two polynomials whose leading coefficients are 1."""
    while other:
        other = monic(other, prime)
        _, left = divided(polynomial, other, prime)
        polynomial, other = other, left
    return polynomial


def solved(rows, many, prime):
    """Some numbers that solve linear equations, if any numbers do.

    Each row has so many coefficients, and behind them what they add up to with the numbers.
    """
    rows = list(rows)
    pivots = []
    for column in range(many):
        at = _row_with(rows, len(pivots), column)
        if at is not None:
            rows[at], rows[len(pivots)] = rows[len(pivots)], rows[at]
            rows = _cleared(rows, len(pivots), column, prime)
            pivots.append(column)
    found = [0] * many
    for k, column in enumerate(pivots):
        found[column] = rows[k][many]
    return found


def _row_with(rows, first, column):
    """The index of a row, from first on, that isn't nought in a column, None if there is none."""
    for k in range(first, len(rows)):
        if rows[k][column] != 0:
            return k
    return None


def _cleared(rows, at, column, prime):
    """The rows when one has a 1 in a column, and is taken from the others so that they have a 0 there."""
    worth = inverse(rows[at][column], prime)
    pivot = [part * worth % prime for part in rows[at]]
    found = []
    for row in rows:
        times = row[column]
        found.append([(part - times * taken) % prime for part, taken in zip(row, pivot)] if times else row)
    found[at] = pivot
    return found
