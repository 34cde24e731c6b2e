"""Deciding: for each claim the right verdict, with what shows it."""

from fewtests.climbs import best_beginning, climb_of, endless_parts, is_endless, table_of
from fewtests.exchange import marked
from fewtests.levels import kept_words
from fewtests.meets import first_accepted, how_many_for
from fewtests.parting import first_difference, first_outside
from fewtests.runs import differ, text_for
from fewtests.sure import common_beginning, fine_tests
from fewtests.tables import count_table_of, endless_words, form_table_of
from fewtests.words import place_of

SHOWN = "shown"
BROKEN = "broken"


def verdict_and_paper(claim):
    """Returns the right verdict on a valid claim, and a paper that shows it."""
    way = WAYS[claim[0]]
    return way(claim)


def sure_by_tests(writer, word, tests):
    """Returns the longest text with which the texts of all tests behind the word begin, None if none is written."""
    texts = [text_for(writer, word + test) for test in tests]
    written = [text for text in texts if text is not None]
    return common_beginning(written) if written else None


def _alike(claim):
    _, first, second = claim
    found = first_difference(first, second)
    return (SHOWN, kept_words(first, second, False)) if found is None else (BROKEN, found)


def _within(claim):
    _, first, second = claim
    found = first_outside(first, second)
    return (SHOWN, kept_words(first, second, True)) if found is None else (BROKEN, found)


def _first(claim):
    _, first, second, word = claim
    if not differ(first, second, word):
        return BROKEN, ("same",)
    found = first_difference(first, second)
    if found != word:
        return BROKEN, ("earlier", found)
    return SHOWN, tuple([test for test in kept_words(first, second, False) if place_of(test) < place_of(word)])


def _tests(claim):
    _, first, second, n = claim
    return _by_number(kept_words(first, second, False), n)


def _fine(claim):
    _, writer, word, n = claim
    return _by_number(fine_tests(writer, word), n)


def _sure(claim):
    _, writer, word, text = claim
    tests = fine_tests(writer, word)
    return (SHOWN if sure_by_tests(writer, word, tests) == text else BROKEN), tests


def _meets(claim):
    _, writer, form = claim
    found = first_accepted(writer, form)
    return (BROKEN, form_table_of(writer, form)) if found is None else (SHOWN, found)


def _written(claim):
    _, writer, text, n = claim
    many = how_many_for(writer, text)
    if many is None:
        parts = endless_words(writer, text)
        return (SHOWN, parts) if n is None else (BROKEN, ("endless", parts))
    table = count_table_of(writer, text)
    return (SHOWN, table) if n == many else (BROKEN, ("table", table))


def _surplus(claim):
    _, first, second, prices, n = claim
    climb = climb_of(first, second, prices)
    if is_endless(climb):
        return BROKEN, ("endless", endless_parts(climb))
    found = best_beginning(climb, first, second, prices)
    if found is None:
        return (SHOWN, table_of(climb)) if n is None else (BROKEN, ("less", table_of(climb)))
    most, word = found
    if n is None or n < most:
        return BROKEN, ("more", word)
    return (SHOWN, (word, table_of(climb))) if n == most else (BROKEN, ("less", table_of(climb)))


def _endless(claim):
    _, first, second, prices = claim
    climb = climb_of(first, second, prices)
    return (SHOWN, endless_parts(climb)) if is_endless(climb) else (BROKEN, table_of(climb))


def _exchange(claim):
    _, writer, s, t = claim
    one, two = marked(writer, s), marked(writer, t)
    found = first_difference(one, two)
    return (SHOWN, kept_words(one, two, False)) if found is None else (BROKEN, _around(writer, s, t, found))


def _by_number(tests, n):
    if len(tests) == n:
        return SHOWN, tests
    return BROKEN, ("fewer" if len(tests) < n else "more", tests)


def _around(writer, s, t, word):
    # The marks become t one by one, the others being s: with one of them it makes a difference.
    mark = len(writer[1][0])
    places = [at for at, kind in enumerate(word) if kind == mark]
    for at in places:
        u = _spread(word[:at], mark, t)
        v = _spread(word[at + 1:], mark, s)
        if text_for(writer, u + s + v) != text_for(writer, u + t + v):
            return u, v
    return None


def _spread(word, mark, other):
    kinds = []
    for kind in word:
        kinds.extend(other if kind == mark else (kind,))
    return tuple(kinds)


WAYS = {
    "alike": _alike,
    "within": _within,
    "first": _first,
    "tests": _tests,
    "fine": _fine,
    "sure": _sure,
    "meets": _meets,
    "written": _written,
    "surplus": _surplus,
    "endless": _endless,
    "exchange": _exchange,
}
