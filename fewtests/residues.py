"""Rows of integers modulo a prime: what is independent there is independent everywhere."""

# For these n, 2 ** n - 1 is prime. Together the primes have more than 2,300,000 bits: no shorter number but 0 is
# divisible by all of them. So one of them at least is right for all rows that occur: 40 of 2,000 digits, or 15 shadows.
EXPONENTS = (
    521,
    607,
    1279,
    2203,
    2281,
    3217,
    4253,
    4423,
    9689,
    9941,
    11213,
    19937,
    21701,
    23209,
    44497,
    86243,
    110503,
    132049,
    216091,
    756839,
    859433,
)


def prime_at(place):
    """Returns the prime at this place of the list."""
    return (1 << EXPONENTS[place]) - 1


def product_of(row, other):
    """Returns the sum of the products of the integers, place by place."""
    return sum([one * two for one, two in zip(row, other)])


def inverse_of(value, modulus):
    """Returns the inverse of value, which has no factor in common with the modulus."""
    larger, smaller = modulus, value % modulus
    before, now = 0, 1
    while smaller > 1:
        times = larger // smaller
        larger, smaller = smaller, larger - times * smaller
        before, now = now, before - times * now
    return now % modulus


def rest_of(row, steps, prime):
    """Returns what is left of the row modulo the prime when the steps are taken off it."""
    rest = [value % prime for value in row]
    for column, step in steps:
        times = rest[column]
        if times != 0:
            rest = [(value - times * other) % prime for value, other in zip(rest, step)]
    return rest


def step_of(rest, prime):
    """Returns the step for a rest other than 0: a column, and a row that has 1 there."""
    # No call of index here and below: errors keep an attribute of that name, and == of Writers runs this.
    column = [at for at, value in enumerate(rest) if value != 0][0]
    times = inverse_of(rest[column], prime)
    return column, tuple([value * times % prime for value in rest])


def inverted(matrix, prime):
    """Returns the inverse of a square matrix that has one modulo the prime."""
    many = len(matrix)
    table = [list(row) + [int(i == k) for k in range(many)] for i, row in enumerate(matrix)]
    done = []
    for column in range(many):
        at = [place for place, row in enumerate(table) if row[column] % prime != 0][0]
        times = inverse_of(table[at][column], prime)
        pivot = [value * times % prime for value in table[at]]
        table = [_cleared(row, pivot, column, prime) for row in table[:at] + table[at + 1:]]
        done = [_cleared(row, pivot, column, prime) for row in done] + [pivot]
    return [row[many:] for row in done]


def _cleared(row, pivot, column, prime):
    times = row[column]
    return [(value - times * other) % prime for value, other in zip(row, pivot)]
