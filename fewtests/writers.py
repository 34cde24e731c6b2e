"""Writers: what they are made of, and how recipes are put together."""

from fewtests.checks import is_index, is_tuple_of
from fewtests.errors import InvalidWriter

MOST_STATES = 12
MOST_KINDS = 4
MOST_BUFFERS = 3
MOST_LETTERS = 240

SMALL_STATES = 4
SMALL_KINDS = 3
SMALL_BUFFERS = 2
SMALL_LETTERS = 24


def require_writer(value):
    """Returns value if it is a writer; else raises InvalidWriter with its first wrong part."""
    if not _is_frame(value):
        raise InvalidWriter(None)
    begins, rules, ends = value
    if not _are_begins(begins):
        raise InvalidWriter(("begins",))
    for state, row in enumerate(rules):
        if not _is_row(row, rules, len(begins)):
            raise InvalidWriter(("state", state))
    for state, end in enumerate(ends):
        if not _is_end(end, len(begins)):
            raise InvalidWriter(("end", state))
    return value


def is_small(writer):
    """Tells whether the writer keeps to the bounds of small ones."""
    begins, rules, _ = writer
    if len(rules) > SMALL_STATES or len(rules[0]) > SMALL_KINDS or len(begins) > SMALL_BUFFERS:
        return False
    return most_letters(writer) <= SMALL_LETTERS


def most_letters(writer):
    """Returns how many letters stand at that place of the writer, a begin, an entry or an end, that has most."""
    begins, rules, ends = writer
    at_begins = [len(text) for text in begins]
    at_entries = [letters_in(entry[1]) for row in rules for entry in row if entry is not None]
    at_ends = [letters_in((end,)) for end in ends if end is not None]
    return max(at_begins + at_entries + at_ends)


def joined(*recipes):
    """Returns the recipe that the recipes make, put together."""
    parts = []
    for recipe in recipes:
        for part in recipe:
            if isinstance(part, str) and parts and isinstance(parts[-1], str):
                parts[-1] = parts[-1] + part
            else:
                parts.append(part)
    return tuple(parts)


def require_small(value, kinds):
    """Returns value if it is a small writer, with so many kinds unless these are None; else raises InvalidWriter."""
    writer = require_writer(value)
    if not is_small(writer) or kinds not in (None, len(writer[1][0])):
        raise InvalidWriter(("small",))
    return writer


def fit_together(recipes, buffers):
    """Tells whether these are recipes that can stand in one entry, or at one end."""
    if not all([_is_recipe(recipe, buffers) for recipe in recipes]):
        return False
    used = [part for recipe in recipes for part in recipe if not isinstance(part, str)]
    return len(set(used)) == len(used) and letters_in(recipes) <= MOST_LETTERS


def letters_in(recipes):
    """Returns how many letters the pieces of the recipes have together."""
    return sum([len(part) for recipe in recipes for part in recipe if isinstance(part, str)])


def is_text(value, most):
    """Tells whether value is a text of at most so many letters."""
    return isinstance(value, str) and len(value) <= most and all(["a" <= sign <= "z" for sign in value])


def _is_frame(value):
    if not is_tuple_of(value, 3) or not all([isinstance(part, tuple) for part in value]):
        return False
    _, rules, ends = value
    return 1 <= len(rules) <= MOST_STATES and len(ends) == len(rules)


def _are_begins(begins):
    return 1 <= len(begins) <= MOST_BUFFERS and all([is_text(text, MOST_LETTERS) for text in begins])


def _is_row(row, rules, buffers):
    if not isinstance(row, tuple) or not 1 <= len(row) <= MOST_KINDS:
        return False
    # Rows are looked at in order: behind row 0 it is sure that row 0 has a length.
    if len(row) != len(rules[0]):
        return False
    return all([_is_entry(entry, len(rules), buffers) for entry in row])


def _is_entry(entry, states, buffers):
    if entry is None:
        return True
    if not is_tuple_of(entry, 2):
        return False
    target, fills = entry
    if not is_index(target, states) or not is_tuple_of(fills, buffers):
        return False
    return fit_together(fills, buffers)


def _is_end(end, buffers):
    return end is None or fit_together((end,), buffers)


def _is_recipe(value, buffers):
    if not isinstance(value, tuple):
        return False
    if not all([_is_piece(part) or is_index(part, buffers) for part in value]):
        return False
    return not any([isinstance(part, str) and isinstance(after, str) for part, after in zip(value, value[1:])])


def _is_piece(value):
    return is_text(value, MOST_LETTERS) and value != ""
