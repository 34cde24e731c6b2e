"""Edits: small changes of a writer, which may make of it what is none; and what names and edits look like."""

from fewtests.checks import is_index
from fewtests.entries import replaced
from fewtests.errors import UnknownEntry
from fewtests.writers import is_text

MOST_LETTERS_IN_A_NAME = 8

# How many parts the edits have, with their own names.
EDITS = {"put": 3, "drop": 2, "entry": 5, "end": 4, "begin": 4}


def is_name(value):
    """Tells whether value is a text of 1 to 8 letters."""
    return is_text(value, MOST_LETTERS_IN_A_NAME) and value != ""


def is_edit(value):
    """Tells whether value is a tuple with the name of an edit and its other parts, whatever these are."""
    if not isinstance(value, tuple) or not value or not isinstance(value[0], str):
        return False
    return value[0] in EDITS and len(value) == EDITS[value[0]]


def with_entry(writer, state, kind, entry):
    """Returns the writer with any value in the place of an entry; raises UnknownEntry if there is no such place."""
    begins, rules, ends = writer
    _require_index(state, len(rules))
    _require_index(kind, len(rules[0]))
    return begins, replaced(rules, state, replaced(rules[state], kind, entry)), ends


def with_end(writer, state, recipe):
    """As with_entry, in the place of an end."""
    begins, rules, ends = writer
    _require_index(state, len(rules))
    return begins, rules, replaced(ends, state, recipe)


def with_begin(writer, buffer, text):
    """As with_entry, in the place of a begin."""
    begins, rules, ends = writer
    _require_index(buffer, len(begins))
    return replaced(begins, buffer, text), rules, ends


def _require_index(value, many):
    if not is_index(value, many):
        raise UnknownEntry(value)
