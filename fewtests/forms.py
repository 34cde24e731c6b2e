"""Forms: small machines that read texts and accept some of them."""

from fewtests.checks import ascends, is_index, is_tuple_of
from fewtests.errors import InvalidForm
from fewtests.shadows import ALPHABET, power_of

MOST_GROUPS = 3
MOST_FORM_STATES = 4
MOST_EFFECTS = 1000


def require_form(value):
    """Returns value if it is a form; else raises InvalidForm with its first wrong part."""
    if not _is_frame(value):
        raise InvalidForm(None)
    groups, rows, good = value
    if not are_groups(groups):
        raise InvalidForm(("groups",))
    for state, row in enumerate(rows):
        if not _is_row(row, len(groups), len(rows)):
            raise InvalidForm(("row", state))
    if not _are_good(good, len(rows)):
        raise InvalidForm(("good",))
    return value


def effect(form, text):
    """Returns the tuple of the states to which the text leads, from each state."""
    groups, rows, _ = form
    places = {letter: _place_of(groups, letter) for letter in text}
    found = list(range(len(rows)))
    for letter in text:
        place = places[letter]
        found = [rows[state][place] for state in found]
    return tuple(found)


def accepts(form, text):
    """Tells whether the form accepts the text."""
    return effect(form, text)[0] in form[2]


def opposite(form):
    """Returns the form that accepts just the other texts."""
    groups, rows, good = form
    return groups, rows, tuple([state for state in range(len(rows)) if state not in good])


def form_fits(writer, form):
    """Tells whether the form fits the writer: whether its buffers can have few effects together."""
    many = len(form[1])
    return power_of(many, many * len(writer[0])) <= MOST_EFFECTS


def are_groups(groups):
    """Tells whether the tuple is one of groups."""
    if len(groups) > MOST_GROUPS or not all([_is_group(group) for group in groups]):
        return False
    letters = "".join(groups)
    return len(set(letters)) == len(letters)


def _place_of(groups, letter):
    for place, group in enumerate(groups):
        if letter in group:
            return place
    return len(groups)


def _is_frame(value):
    if not is_tuple_of(value, 3):
        return False
    return all([isinstance(part, tuple) for part in value]) and 1 <= len(value[1]) <= MOST_FORM_STATES


def _is_group(value):
    if not isinstance(value, str) or value == "" or len(value) > len(ALPHABET):
        return False
    return all([letter in ALPHABET for letter in value]) and ascends(value)


def _is_row(row, groups, states):
    if not is_tuple_of(row, groups + 1):
        return False
    return all([is_index(state, states) for state in row])


def _are_good(good, states):
    return all([is_index(state, states) for state in good]) and ascends(good)
