"""Writers: what they are made of, and how recipes are put together."""

from fewtests.errors import InvalidWriter

MOST_STATES = 12
MOST_KINDS = 4
MOST_BUFFERS = 3
MOST_LETTERS = 240

SMALL_STATES = 4
SMALL_KINDS = 3
SMALL_BUFFERS = 2
SMALL_LETTERS = 24


def require_writer(value):
    """Returns value if it is a writer; else raises InvalidWriter with its first wrong part."""
    if not _is_frame(value):
        raise InvalidWriter(None)
    begins, rules, ends = value
    if not _are_begins(begins):
        raise InvalidWriter(("begins",))
    for state, row in enumerate(rules):
        if not _is_row(row, rules, len(begins)):
            raise InvalidWriter(("state", state))
    for state, end in enumerate(ends):
        if not _is_end(end, len(begins)):
            raise InvalidWriter(("end", state))
    return value


def is_small(writer):
    """Tells whether the writer keeps to the bounds of small ones."""
    begins, rules, _ = writer
    if len(rules) > SMALL_STATES or len(rules[0]) > SMALL_KINDS or len(begins) > SMALL_BUFFERS:
        return False
    return all([many <= SMALL_LETTERS for many in _letters_at_places(writer)])


def joined(*recipes):
    """Returns the recipe that the recipes make, put together."""
    parts = []
    for recipe in recipes:
        for part in recipe:
            if isinstance(part, str) and parts and isinstance(parts[-1], str):
                parts[-1] = parts[-1] + part
            else:
                parts.append(part)
    return tuple(parts)


def is_index(value, many):
    """Tells whether value is an integer from 0 to many - 1."""
    # A bool is an int in Python, but no integer here.
    return isinstance(value, int) and not isinstance(value, bool) and 0 <= value < many


def is_text(value, most):
    """Tells whether value is a text of at most so many letters."""
    return isinstance(value, str) and len(value) <= most and all(["a" <= sign <= "z" for sign in value])


def _is_frame(value):
    if not isinstance(value, tuple) or len(value) != 3:
        return False
    if not all([isinstance(part, tuple) for part in value]):
        return False
    _, rules, ends = value
    return 1 <= len(rules) <= MOST_STATES and len(ends) == len(rules)


def _are_begins(begins):
    return 1 <= len(begins) <= MOST_BUFFERS and all([is_text(text, MOST_LETTERS) for text in begins])


def _is_row(row, rules, buffers):
    if not isinstance(row, tuple) or not 1 <= len(row) <= MOST_KINDS:
        return False
    # Rows are looked at in order: behind row 0 it is sure that row 0 has a length.
    if len(row) != len(rules[0]):
        return False
    return all([_is_entry(entry, len(rules), buffers) for entry in row])


def _is_entry(entry, states, buffers):
    if entry is None:
        return True
    if not isinstance(entry, tuple) or len(entry) != 2:
        return False
    target, fills = entry
    if not is_index(target, states) or not isinstance(fills, tuple) or len(fills) != buffers:
        return False
    return _fit_together(fills, buffers)


def _is_end(end, buffers):
    return end is None or _fit_together((end,), buffers)


def _fit_together(recipes, buffers):
    if not all([_is_recipe(recipe, buffers) for recipe in recipes]):
        return False
    used = [part for recipe in recipes for part in recipe if not isinstance(part, str)]
    return len(set(used)) == len(used) and _letters_in(recipes) <= MOST_LETTERS


def _is_recipe(value, buffers):
    if not isinstance(value, tuple):
        return False
    if not all([_is_piece(part) or is_index(part, buffers) for part in value]):
        return False
    return not any([isinstance(part, str) and isinstance(after, str) for part, after in zip(value, value[1:])])


def _is_piece(value):
    return is_text(value, MOST_LETTERS) and value != ""


def _letters_in(recipes):
    return sum([len(part) for recipe in recipes for part in recipe if isinstance(part, str)])


def _letters_at_places(writer):
    begins, rules, ends = writer
    at_begins = [len(text) for text in begins]
    at_entries = [_letters_in(entry[1]) for row in rules for entry in row if entry is not None]
    at_ends = [_letters_in((end,)) for end in ends if end is not None]
    return at_begins + at_entries + at_ends
