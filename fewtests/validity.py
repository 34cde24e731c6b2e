"""Validity: whether any value is a valid claim."""

from fewtests.checks import is_in, is_tuple_of
from fewtests.errors import InvalidForm, InvalidWriter
from fewtests.forms import form_fits, require_form
from fewtests.runs import behind
from fewtests.words import is_word
from fewtests.writers import is_text, require_small

# For each claim how many writers it has, behind its name, and how many parts, with its name.
CLAIMS = {
    "alike": (2, 3),
    "within": (2, 3),
    "first": (2, 4),
    "tests": (2, 4),
    "fine": (1, 4),
    "sure": (1, 4),
    "meets": (1, 3),
    "written": (1, 4),
    "surplus": (2, 5),
    "endless": (2, 4),
    "exchange": (1, 4),
}

MOST_KINDS_IN_A_WORD = 1000
MOST_KINDS_READ = 60
MOST_KINDS_EXCHANGED = 4
MOST_TESTS = 1000
MOST_TEXT = 20000
MOST_SHORT_TEXT = 4
MOST_COUNT = 10 ** 60
MOST_SURPLUS = 10 ** 9
MOST_PRICE = 9
PRICES = 26


def has_claim_form(value):
    """Tells whether value is a tuple that begins with the name of a claim and has the number of its parts."""
    if not isinstance(value, tuple) or not value or not isinstance(value[0], str):
        return False
    return value[0] in CLAIMS and len(value) == CLAIMS[value[0]][1]


def writers_in(claim):
    """Returns the tuple of what stands in the places of the claim's writers."""
    return claim[1:1 + CLAIMS[claim[0]][0]]


def with_writers(claim, writers):
    """Returns the named claim with the writers, a dict, in the places of their names."""
    names = writers_in(claim)
    return claim[:1] + tuple([writers[name] for name in names]) + claim[1 + len(names):]


def is_claim(value):
    """Tells whether value is a valid claim."""
    if not has_claim_form(value):
        return False
    writers = writers_in(value)
    if not all([_is_small_writer(writer) for writer in writers]):
        return False
    if any([len(writer[1][0]) != len(writers[0][1][0]) for writer in writers]):
        return False
    return _rest_fits(value[0], writers[0], value[1 + len(writers):])


def _is_small_writer(value):
    try:
        require_small(value, None)
    except InvalidWriter:
        return False
    return True


def _rest_fits(name, writer, rest):
    # The rest is what stands behind the writers; where there are two, the first one tells the kinds.
    kinds = len(writer[1][0])
    if name == "first":
        return is_word(rest[0], kinds, MOST_KINDS_IN_A_WORD)
    if name == "tests":
        return is_in(rest[0], 1, MOST_TESTS)
    if name == "fine":
        return _can_be_read(writer, rest[0]) and is_in(rest[1], 1, MOST_TESTS)
    if name == "sure":
        return _can_be_read(writer, rest[0]) and (rest[1] is None or is_text(rest[1], MOST_TEXT))
    if name == "meets":
        return _is_form(rest[0]) and form_fits(writer, rest[0])
    if name == "written":
        return is_text(rest[0], MOST_SHORT_TEXT) and (rest[1] is None or is_in(rest[1], 0, MOST_COUNT))
    if name == "surplus":
        return _are_prices(rest[0]) and (rest[1] is None or is_in(rest[1], -MOST_SURPLUS, MOST_SURPLUS))
    if name == "endless":
        return _are_prices(rest[0])
    if name == "exchange":
        return all([is_word(word, kinds, MOST_KINDS_EXCHANGED) for word in rest])
    return True


def _can_be_read(writer, value):
    return is_word(value, len(writer[1][0]), MOST_KINDS_READ) and behind(writer, value) is not None


def _is_form(value):
    try:
        require_form(value)
    except InvalidForm:
        return False
    return True


def _are_prices(value):
    return is_tuple_of(value, PRICES) and all([is_in(price, -MOST_PRICE, MOST_PRICE) for price in value])
