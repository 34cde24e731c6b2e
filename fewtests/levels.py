"""Levels: the words that are enough to know two writers by, length by length.

A word is kept if its shadow is no sum of the shadows of kept words before it with the same pair. Where a word that is
not kept tells two writers apart, by itself or with more behind it, one of those words before it does so too.
"""

from fewtests.spans import no_span, span_at, taken
from fewtests.walks import counts, joint_moved, joint_shadow, joint_start, pair_of


def first_level(joint):
    """Returns a pair: the list of kept words without kinds, with their joint situations, and the spans by pairs.

    Words are read from this joint situation on.
    """
    _, span = taken(no_span(), joint_shadow(joint))
    return [((), joint)], {pair_of(joint): span}


def next_level(first, second, inside, level, spans):
    """Returns the same for kept words that have a kind more; if inside, without those that the first one refuses."""
    kept = {pair: spans[pair] for pair in spans}
    found = []
    for word, joint in level:
        for kind in range(len(first[1][0])):
            behind = joint_moved(first, second, joint, kind)
            pair = pair_of(behind)
            if counts(pair, inside):
                grew, kept[pair] = taken(span_at(kept, pair), joint_shadow(behind))
                if grew:
                    found.append((word + (kind,), behind))
    return found, kept


def kept_words(first, second, inside):
    """Returns all the kept words, in their order."""
    words = []
    level, spans = first_level(joint_start(first, second))
    while level:
        words = words + [word for word, _ in level]
        level, spans = next_level(first, second, inside, level, spans)
    return tuple(words)
