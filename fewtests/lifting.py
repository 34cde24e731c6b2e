"""Exact solutions of systems of equations, digit by digit from their solutions modulo a prime."""

from math import gcd, isqrt

from fewtests.residues import product_of

# So many first bits of two long numbers are looked at to know the next steps of Euclid's algorithm for them.
CHUNK = 1024


def solution_of(matrix, inverse, side, prime):
    """Returns a pair (d, f) in lowest terms: d is an integer from 1 on, and the matrix times f is d times the side.

    The matrix is square, and inverse is its inverse modulo the prime.
    """
    known = [0 for _ in side]
    rest = list(side)
    modulus = 1
    steps = 1
    while True:
        for _ in range(steps):
            digits = _digits_of(inverse, rest, prime)
            known = [value + modulus * digit for value, digit in zip(known, digits)]
            rest = [(value - product_of(row, digits)) // prime for value, row in zip(rest, matrix)]
            modulus = modulus * prime
        found = _fractions_of(known, modulus)
        if found is not None and _fits(matrix, found, side):
            return _in_lowest_terms(found)
        # The digits known are doubled each time: few are needed if the answer is short.
        steps = steps * 2


def _digits_of(inverse, rest, prime):
    short = [value % prime for value in rest]
    return [product_of(row, short) % prime for row in inverse]


def _fractions_of(values, modulus):
    # One denominator for all of them; None if it becomes too long to be sure of.
    bound = isqrt(modulus // 2)
    under = 1
    overs = []
    for value in values:
        over, factor = fraction_of(value * under % modulus, modulus, bound)
        under = under * factor
        if under > bound:
            return None
        overs = [other * factor for other in overs] + [over]
    return under, tuple(overs)


def fraction_of(value, modulus, bound):
    """Returns (n, d), d from 1 on: modulo the modulus n is d times the value, and n is not above the bound."""
    # Euclid's algorithm, as far as the first remainder that is not above the bound.
    larger, smaller = modulus, value
    before, now = 0, 1
    while smaller > bound:
        a, b, c, d = _leap(larger, smaller, bound)
        larger, smaller = a * larger + b * smaller, c * larger + d * smaller
        before, now = a * before + b * now, c * before + d * now
    if now < 0:
        return -smaller, -now
    return smaller, now


def _leap(larger, smaller, bound):
    # Four factors that make of two remainders two later ones, by one step or, if they are long, by many.
    if smaller.bit_length() > bound.bit_length() + CHUNK:
        shift = larger.bit_length() - CHUNK
        factors = _certain_steps(larger >> shift, smaller >> shift)
        if factors != (1, 0, 0, 1):
            return factors
    return 0, 1, 1, -(larger // smaller)


def _certain_steps(larger, smaller):
    # The first bits of two remainders tell a step for sure while what the bits behind them can bring is less than the
    # new remainder, and less than what this one is smaller by than the one before it.
    a, b, c, d = 1, 0, 0, 1
    while smaller > 0:
        times = larger // smaller
        rest = larger - times * smaller
        e, f = a - times * c, b - times * d
        unsure = max(abs(e), abs(f))
        if rest < 2 * unsure or smaller - rest < unsure + max(abs(c), abs(d)):
            return a, b, c, d
        larger, smaller = smaller, rest
        a, b, c, d = c, d, e, f
    return a, b, c, d


def _in_lowest_terms(found):
    under, overs = found
    common = under
    for over in overs:
        common = gcd(common, over)
    return under // common, tuple([over // common for over in overs])


def _fits(matrix, found, side):
    under, overs = found
    return all([product_of(row, overs) == under * value for row, value in zip(matrix, side)])
