"""Fine spans: all the rows that are sums of some rows with fractions whose denominators 29 does not divide."""

from math import gcd

from fewtests.residues import inverse_of
from fewtests.shadows import BASE, power_of
from fewtests.spans import held, no_span, span_of

FIRST_DIGITS = 8


class FineSpan:
    """The fine sums of independent rows, the span being that of these rows.

    The steps are (column, power, row): a row modulo the modulus with this power of 29 at the column; there the rows
    that come later have 0, and no entry of it or of them is divisible by fewer factors 29 than the power.
    """

    def __init__(self, span, rows, modulus, steps):
        self.span = span
        self.rows = rows
        self.modulus = modulus
        self.steps = steps


def no_fine_span():
    """Returns the fine span of no rows."""
    return FineSpan(no_span(), (), BASE, ())


def fine_span_of(rows):
    """Returns the fine span of the rows; its rows are some of these."""
    return _fine_span(rows, power_of(BASE, FIRST_DIGITS))


def fine_taken(fine, row):
    """Returns a pair: whether the row is no fine sum, and the fine span of the rows and this one."""
    same = fine_held(fine, row)
    if same is not None:
        return False, same
    return True, _fine_span(fine.rows + (row,), fine.modulus * power_of(BASE, FIRST_DIGITS))


def fine_held(fine, row):
    """Returns the fine span if the row is a fine sum of its rows, with what was needed to tell; else None."""
    if parts_of(fine.steps, fine.modulus, row) is None:
        return None
    # Modulo a power of 29 it is a fine sum: then it is one if it is a sum at all.
    span = held(fine.span, row)
    if span is None:
        return None
    return FineSpan(span, fine.rows, fine.modulus, fine.steps)


def parts_of(steps, modulus, row):
    """Returns how many times the row has each step, modulo 29 at least, or None if it is surely no fine sum."""
    rest = [value % modulus for value in row]
    parts = []
    for column, power, step in steps:
        if rest[column] % power != 0:
            return None
        times = rest[column] // power
        rest = [(value - times * other) % modulus for value, other in zip(rest, step)]
        parts.append(times)
    if any(rest):
        return None
    return parts


def _fine_span(rows, first_modulus):
    span = span_of(rows)
    modulus = first_modulus
    found = pivots_of(rows, modulus)
    # A pivot that the modulus divides looks like 0: only with all of them the answer is exact.
    while len(found) < len(span.rows):
        modulus = modulus * modulus
        found = pivots_of(rows, modulus)
    # One factor 29 more than any pivot has is enough from now on.
    enough = BASE * max([1] + [power for _, (_, power, _) in found])
    steps = [(column, power, tuple([value % enough for value in row])) for _, (column, power, row) in found]
    return FineSpan(span, tuple([rows[index] for index, _ in found]), enough, tuple(steps))


def pivots_of(rows, modulus):
    """Returns a list of pairs (index, step) for the rows modulo a power of 29.

    The step is one as in a FineSpan; it was made from the row at the index.
    """
    left = [(index, [value % modulus for value in row]) for index, row in enumerate(rows)]
    found = []
    best = _least_divisible(left, modulus)
    while best is not None:
        power, at, column = best
        index, row = left[at]
        times = _inverse_of(row[column] // power, modulus)
        step = tuple([value * times % modulus for value in row])
        found.append((index, (column, power, step)))
        left = [(other, _cleared(values, column, power, step, modulus)) for other, values in left if other != index]
        best = _least_divisible(left, modulus)
    return found


def _inverse_of(value, modulus):
    # The inverse modulo a power of 29, its digits doubled each time: Euclid's algorithm takes long for long numbers.
    known = inverse_of(value % BASE, BASE)
    power = BASE
    while power < modulus:
        power = power * power
        known = known * (2 - value % power * known) % power
    return known % modulus


def _least_divisible(left, modulus):
    best = None
    for at, (_, row) in enumerate(left):
        for column, value in enumerate(row):
            if value != 0:
                power = gcd(value, modulus)
                if best is None or power < best[0]:
                    best = (power, at, column)
                if power == 1:
                    return best
    return best


def _cleared(values, column, power, step, modulus):
    times = values[column] // power
    return [(value - times * other) % modulus for value, other in zip(values, step)]
