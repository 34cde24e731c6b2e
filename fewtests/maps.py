"""Maps: what an entry does to shadows, as rows of integers, and what an end's number is, as one row.

A term is a pair (pattern, factor). The size of a text that a recipe makes is one term of the old shadow, its number is
several: no buffer stands in a recipe twice.
"""

from fewtests.shadows import number_of, size_of


def patterns_of(buffers):
    """Returns the list of the patterns for so many buffers, ascending."""
    patterns = [()]
    for _ in range(buffers):
        patterns = [shorter + (sign,) for shorter in patterns for sign in range(3) if sign < 2 or 2 not in shorter]
    return patterns


def end_row(recipe, buffers):
    """Returns the row whose product with the shadow is the number of the text that the recipe makes."""
    return _row_of(_number_terms(recipe, buffers), patterns_of(buffers))


def map_of(fills):
    """Returns the list of rows, one for each pattern, whose products with a shadow are that behind the fills."""
    buffers = len(fills)
    patterns = patterns_of(buffers)
    rows = []
    for pattern in patterns:
        terms = [((0,) * buffers, 1)]
        for sign, recipe in zip(pattern, fills):
            if sign == 1:
                terms = _times(terms, [_size_term(recipe, buffers)])
            if sign == 2:
                terms = _times(terms, _number_terms(recipe, buffers))
        rows.append(_row_of(terms, patterns))
    return rows


def ahead_of(row, rows):
    """Returns the row that has the product with a shadow that row has with what the rows make of it."""
    return tuple([sum([one * two for one, two in zip(row, column)]) for column in zip(*rows)])


def _size_term(recipe, buffers):
    pattern = (0,) * buffers
    factor = 1
    for part in recipe:
        if isinstance(part, str):
            factor = factor * size_of(part)
        else:
            pattern = _marked(pattern, part, 1)
    return pattern, factor


def _number_terms(recipe, buffers):
    terms = []
    for place, part in enumerate(recipe):
        pattern, factor = _size_term(recipe[:place], buffers)
        if isinstance(part, str):
            terms.append((pattern, factor * number_of(part)))
        else:
            terms.append((_marked(pattern, part, 2), factor))
    return terms


def _marked(pattern, buffer, sign):
    return pattern[:buffer] + (sign,) + pattern[buffer + 1:]


def _times(terms, others):
    # The recipes of different buffers have no buffer in common: their patterns are put side by side by a sum.
    found = []
    for pattern, factor in terms:
        for other, times in others:
            found.append((tuple([one + two for one, two in zip(pattern, other)]), factor * times))
    return found


def _row_of(terms, patterns):
    sums = {pattern: 0 for pattern in patterns}
    for pattern, factor in terms:
        sums[pattern] = sums[pattern] + factor
    return tuple([sums[pattern] for pattern in patterns])
