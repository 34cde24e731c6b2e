"""Sums: which rows are sums of others, each taken with a fraction, and which are so without 29 in a denominator."""

from math import gcd

from fewtests.fine import fine_span_of
from fewtests.residues import prime_at, product_of, rest_of
from fewtests.shadows import BASE
from fewtests.spans import check_at, check_of, chosen, columns_of, combination, no_span, span_of, taken


def is_sum(rows, row):
    """Tells whether the row is a sum of the rows."""
    return factors(rows, row) is not None


def is_fine_sum(rows, row):
    """Tells whether the row is a fine sum of the rows."""
    return fine_factors(rows, row) is not None


def factors(rows, row):
    """Returns (d, f), d times row being the sum of the rows, each taken with its integer of f; or None."""
    found, _ = _settled(rows, row)
    return found


def apart(rows, row):
    """Returns integers that have the product 0 with each of the rows and another one with row, or None."""
    _, found = _settled(rows, row)
    return found


def fine_factors(rows, row):
    """Returns a pair as factors does in which 29 does not divide d, or None."""
    chosen_rows = fine_span_of(rows).rows
    found = combination(span_of(chosen_rows), row)
    if found is None or found[0] % BASE == 0:
        return None
    return _spread(rows, chosen_rows, found)


def fine_apart(rows, row):
    """Returns (y, e): 29 ** e divides the product of y with each of the rows and not that with row; or None."""
    span = span_of(fine_span_of(rows).rows)
    found = combination(span, row)
    if found is None:
        check = apart(rows, row)
        return check, _factors_29(product_of(check, row)) + 1
    under, overs = found
    for index, over in enumerate(overs):
        if under // gcd(under, over) % BASE == 0:
            check, worth = check_of(span, index, len(row))
            return check, _factors_29(worth)
    return None


def basis(rows):
    """Returns the indices of the rows that are no sum of rows before them."""
    span = no_span()
    found = []
    for index, row in enumerate(rows):
        grew, span = taken(span, row)
        if grew:
            found.append(index)
    return tuple(found)


def dimension(rows):
    """Returns how many rows the basis of the rows has."""
    return len(basis(rows))


def _settled(rows, row):
    # A pair: what factors returns and what apart returns. Just one of them is None.
    place = 0
    while True:
        span = chosen(rows, place)
        found = combination(span, row)
        if found is not None:
            return _spread(rows, span.rows, found), None
        check = _check_against(span, row)
        if not any([product_of(check, other) != 0 for other in rows]):
            return None, check
        # The prime divides what tells some of the rows from the others: the next one may not.
        place = place + 1


def _check_against(span, row):
    # A check of the span that has another product than 0 with a row that is no sum.
    rest = rest_of(row, span.steps, prime_at(span.place))
    columns = columns_of(span)
    others = [at for at in range(len(row)) if at not in columns and (rest[at] != 0 or not any(rest))]
    for at in others[:-1]:
        check = check_at(span, at, len(row))
        if product_of(check, row) != 0:
            return check
    return check_at(span, others[-1], len(row))


def _spread(rows, some, found):
    # The factors for some of the rows as factors for all: the others are not used.
    under, overs = found
    spread = [0 for _ in rows]
    for row, over in zip(some, overs):
        spread[rows.index(row)] = over
    return under, tuple(spread)


def _factors_29(value):
    many = 0
    left = value
    while left % BASE == 0:
        left = left // BASE
        many = many + 1
    return many
