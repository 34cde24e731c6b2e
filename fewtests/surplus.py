"""Surplus: by how much the text of one writer can be worth more than that of another one."""

from fewtests.climbs import best_beginning, climb_of, endless_parts, is_endless
from fewtests.fates import worth
from fewtests.heights import bound_of, is_height_table, table_fault
from fewtests.runs import text_for


def surplus(first, second, prices, word):
    """Returns the worth of the first one's text less that of the second one's, None if they do not both write it."""
    one = text_for(first, word)
    two = text_for(second, word)
    if one is None or two is None:
        return None
    return worth(prices, one) - worth(prices, two)


def greatest_surplus(first, second, prices):
    """Returns ("none",), ("most", n, word) or ("endless", u, v, w)."""
    climb = climb_of(first, second, prices)
    if is_endless(climb):
        return ("endless",) + endless_parts(climb)
    found = best_beginning(climb, first, second, prices)
    return ("none",) if found is None else ("most",) + found


def is_bound(first, second, prices, value, n):
    """Tells whether the value is a height table that is closed, its bound being None or at most n."""
    if not is_height_table(first, second, value) or table_fault(first, second, prices, value) is not None:
        return False
    bound = bound_of(first, second, prices, value)
    return bound is None or bound <= n
