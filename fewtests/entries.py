"""Entries: what a whole word does in a state, as one entry; and what a writer may have at the most."""

from fewtests.errors import LimitExceeded
from fewtests.writers import MOST_BUFFERS, MOST_LETTERS, MOST_STATES, joined, most_letters


def entry_along(writer, start, word):
    """Returns the entry that does in the state start what the word does, or None if the word is refused there."""
    state = start
    fills = own_fills(len(writer[0]))
    for kind in word:
        entry = writer[1][state][kind]
        if entry is None:
            return None
        state, later = entry
        fills = tuple([put_in(recipe, fills) for recipe in later])
    return state, fills


def end_along(writer, start, word):
    """Returns the recipe that the word and the end behind it make from the state start, or None."""
    entry = entry_along(writer, start, word)
    if entry is None or writer[2][entry[0]] is None:
        return None
    return put_in(writer[2][entry[0]], entry[1])


def own_fills(buffers):
    """Returns the fills with which each buffer keeps its own."""
    return tuple([(buffer,) for buffer in range(buffers)])


def put_in(recipe, fills):
    """Returns the recipe with the fills in the places of the buffers."""
    recipes = [(part,) if isinstance(part, str) else fills[part] for part in recipe]
    return joined(*recipes)


def replaced(values, index, value):
    """Returns the tuple with the value at the index."""
    return values[:index] + (value,) + values[index + 1:]


def require_bounds(writer):
    """Returns the writer; raises LimitExceeded if it has too many states, buffers or letters."""
    if len(writer[1]) > MOST_STATES:
        raise LimitExceeded(MOST_STATES)
    if len(writer[0]) > MOST_BUFFERS:
        raise LimitExceeded(MOST_BUFFERS)
    if most_letters(writer) > MOST_LETTERS:
        raise LimitExceeded(MOST_LETTERS)
    return writer
