"""Endings: for each state the few words that tell how much is sure of any text that has come there.

The number of a text that a word ends is the product of the shadow with a row, which the word and the state give. If
that row is a fine sum of those of other words, and the factors together are 1, then with what the others' texts have in
common the word's text begins, too.
"""

from fewtests.fine import fine_taken, no_fine_span
from fewtests.maps import ahead_of, end_row, map_of


def endings_of(writer):
    """Returns for each state a tuple of words, none if nothing can be written from there."""
    steps = _steps_of(writer)
    level = _first_endings(writer)
    spans = [no_fine_span() for _ in writer[1]]
    found = [() for _ in writer[1]]
    while level:
        kept = []
        for state, word, row in level:
            # The 1 makes sure of the factors.
            grew, spans[state] = fine_taken(spans[state], (1,) + row)
            if grew:
                found[state] = found[state] + (word,)
                kept.append((state, word, row))
        level = [
            (before, (kind,) + word, ahead_of(row, rows))
            for state, word, row in kept
            for before, kind, target, rows in steps
            if target == state
        ]
    return tuple(found)


def _first_endings(writer):
    begins, _, ends = writer
    return [(state, (), end_row(end, len(begins))) for state, end in enumerate(ends) if end is not None]


def _steps_of(writer):
    return [
        (state, kind, entry[0], map_of(entry[1]))
        for state, row in enumerate(writer[1])
        for kind, entry in enumerate(row)
        if entry is not None
    ]
