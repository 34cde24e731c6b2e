"""Heights: whether a height table is one, and whether it is closed."""

from fewtests.checks import ascends, first_true, is_in, is_index, is_tuple_of
from fewtests.fated import begin_value, end_state, end_value, joint_before, moves_from, steps_of, weight_of

MOST_HEIGHT = 10 ** 9


def is_height_table(first, second, value):
    """Tells whether the value has the form of a height table; its pairs need not be closed."""
    if not is_tuple_of(value, 2):
        return False
    pairs, rows = value
    if not _are_pairs(first, second, pairs) or not isinstance(rows, tuple):
        return False
    if not all([_is_row(first, second, row) for row in rows]):
        return False
    known = {pair: True for pair in pairs}
    return all([(row[0], row[2]) in known for row in rows]) and ascends([row[:4] for row in rows])


def table_fault(first, second, prices, table):
    """Returns the first fault of a height table that should be closed, or None."""
    pairs, rows = table
    for index, pair in enumerate(pairs):
        for kind, one, two in moves_from(first, second, pair):
            if (one[0], two[0]) not in pairs:
                return "pair", index, kind
    heights = {row[:4]: row[4] for row in rows}
    low = first_true([_is_low_end(first, second, prices, pair, heights) for pair in pairs])
    if low is not None:
        return "end", low
    steps = steps_of(first, second, pairs)
    for index, row in enumerate(rows):
        kind = _low_kind(steps, prices, row, heights)
        if kind is not None:
            return "step", index, kind
    return None


def bound_of(first, second, prices, table):
    """Returns the bound of a height table."""
    starts = [row for row in table[1] if (row[0], row[2]) == (0, 0)]
    return max([begin_value(first, second, prices, row) + row[4] for row in starts], default=None)


def _are_pairs(first, second, value):
    if not isinstance(value, tuple) or not all([_is_pair(first, second, pair) for pair in value]):
        return False
    return (0, 0) in value and ascends(value)


def _is_pair(first, second, value):
    if not is_tuple_of(value, 2):
        return False
    return is_index(value[0], len(first[1])) and is_index(value[1], len(second[1]))


def _is_row(first, second, value):
    if not is_tuple_of(value, 5):
        return False
    if not _is_pair(first, second, (value[0], value[2])):
        return False
    if not _are_fates(value[1], len(first[0])) or not _are_fates(value[3], len(second[0])):
        return False
    return is_in(value[4], -MOST_HEIGHT, MOST_HEIGHT)


def _are_fates(value, buffers):
    return is_tuple_of(value, buffers) and all([is_index(fate, 2) for fate in value])


def _is_low_end(first, second, prices, pair, heights):
    end = end_state(first, second, pair)
    return end is not None and (end not in heights or heights[end] < end_value(first, second, prices, pair))


def _low_kind(steps, prices, row, heights):
    # The least kind with a step to the row's joint state from one that lacks a row or has one too low.
    low = []
    for step in steps.get((row[0], row[2]), []):
        before = joint_before(step, row)
        if before not in heights or heights[before] < weight_of(prices, step, row) + row[4]:
            low.append(step[1])
    return min(low, default=None)
