"""Spans: all the rows that are sums of some rows, exactly, though most of the work is done modulo a prime."""

from fewtests.lifting import solution_of
from fewtests.residues import inverted, prime_at, product_of, rest_of, step_of


class Span:
    """The sums of rows that are independent, also modulo the prime at a place of the list.

    The steps are the rows modulo the prime, each one cleared by those before it. The checks, once they are known, are
    integer rows: the sums are exactly the rows with the product 0 with each of them.
    """

    def __init__(self, place, rows, steps, checks):
        self.place = place
        self.rows = rows
        self.steps = steps
        self.checks = checks


def no_span():
    """Returns the span of no rows."""
    return Span(0, (), (), None)


def span_at(spans, key):
    """Returns the span that a dict has under the key, that of no rows if it has none."""
    return spans[key] if key in spans else no_span()


def taken(span, row):
    """Returns a pair: whether the row is no sum of the span's rows, and the span of these and the row."""
    if is_apart(span, row):
        return True, _with_step(span, row)
    same = held(span, row)
    if same is not None:
        return False, same
    # The prime divides what tells the row from a sum: another one must be taken.
    return True, _built(span.rows + (row,), span.place + 1)


def held(span, row):
    """Returns the span if the row is a sum of its rows, with its checks if they were needed; else None."""
    if is_apart(span, row):
        return None
    if len(span.rows) == len(row) or row in span.rows or not any(row):
        return span
    checked = with_checks(span, len(row))
    if any([product_of(check, row) != 0 for check in checked.checks]):
        return None
    return checked


def is_apart(span, row):
    """Tells whether the row is no sum modulo the span's prime; then it is no sum at all."""
    if len(span.rows) == len(row):
        return False
    return any(rest_of(row, span.steps, prime_at(span.place)))


def with_checks(span, width):
    """Returns the span of rows of this width with its checks."""
    if span.checks is not None:
        return span
    columns = columns_of(span)
    others = [column for column in range(width) if column not in columns]
    inverse = inverted(_matrix_of(span), prime_at(span.place))
    return Span(span.place, span.rows, span.steps, tuple([_check(span, inverse, at, width) for at in others]))


def check_at(span, column, width):
    """Returns the check that has an integer from 1 on at this column and else only 0 where no step begins."""
    return _check(span, inverted(_matrix_of(span), prime_at(span.place)), column, width)


def _check(span, inverse, column, width):
    side = [-row[column] for row in span.rows]
    under, overs = solution_of(_matrix_of(span), inverse, side, prime_at(span.place))
    return _widened([column] + columns_of(span), (under,) + overs, width)


def check_of(span, index, width):
    """Returns a pair (y, d): y has the product d, from 1 on, with the row at the index and 0 with the other rows."""
    side = [int(at == index) for at in range(len(span.rows))]
    matrix = _matrix_of(span)
    prime = prime_at(span.place)
    under, overs = solution_of(matrix, inverted(matrix, prime), side, prime)
    return _widened(columns_of(span), overs, width), under


def combination(span, row):
    """Returns (d, f) with d from 1 on, in lowest terms, d times row being the sum of the rows times f, or None."""
    if is_apart(span, row):
        return None
    columns = columns_of(span)
    matrix = [[other[at] for other in span.rows] for at in columns]
    prime = prime_at(span.place)
    under, overs = solution_of(matrix, inverted(matrix, prime), [row[at] for at in columns], prime)
    for at, value in enumerate(row):
        if product_of(overs, [other[at] for other in span.rows]) != under * value:
            return None
    return under, overs


def _widened(columns, values, width):
    wide = [0 for _ in range(width)]
    for at, value in zip(columns, values):
        wide[at] = value
    return tuple(wide)


def _matrix_of(span):
    columns = columns_of(span)
    return [[row[at] for at in columns] for row in span.rows]


def columns_of(span):
    """Returns the columns at which the steps begin."""
    return [column for column, _ in span.steps]


def _with_step(span, row):
    prime = prime_at(span.place)
    step = step_of(rest_of(row, span.steps, prime), prime)
    return Span(span.place, span.rows + (row,), span.steps + (step,), None)


def _built(rows, first_place):
    place = first_place
    span = chosen(rows, place)
    while len(span.rows) < len(rows):
        place = place + 1
        span = chosen(rows, place)
    return span


def span_of(rows):
    """Returns the span of those rows that are no sums of rows before them."""
    span = no_span()
    for row in rows:
        _, span = taken(span, row)
    return span


def chosen(rows, place):
    """Returns the span of those rows that are no sums of rows before them modulo the prime at this place."""
    span = Span(place, (), (), None)
    for row in rows:
        if is_apart(span, row):
            span = _with_step(span, row)
    return span
