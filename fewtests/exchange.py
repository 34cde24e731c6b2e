"""Exchange: words that may stand for each other everywhere, and buffers that are not needed."""

from fewtests.entries import entry_along, replaced, require_bounds
from fewtests.parting import alike


def marked(writer, word):
    """Returns the writer with one kind more, the last one, which does in each state what the word does."""
    begins, rules, ends = writer
    rows = [row + (entry_along(writer, state, word),) for state, row in enumerate(rules)]
    return require_bounds((begins, tuple(rows), ends))


def exchangeable(writer, first, second):
    """Tells whether the two words may stand for each other."""
    return alike(marked(writer, first), marked(writer, second))


def emptied(writer, buffer):
    """Returns the writer with an empty begin for the buffer, and an empty recipe in each entry."""
    begins, rules, ends = writer
    rows = [tuple([_emptied_entry(entry, buffer) for entry in row]) for row in rules]
    return replaced(begins, buffer, ""), tuple(rows), ends


def needless(writer):
    """Returns the ascending tuple of the buffers without which the writer writes the same."""
    return tuple([buffer for buffer in range(len(writer[0])) if alike(writer, emptied(writer, buffer))])


def _emptied_entry(entry, buffer):
    return None if entry is None else (entry[0], replaced(entry[1], buffer, ()))
