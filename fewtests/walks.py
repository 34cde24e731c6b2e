"""Walks: two writers go through a word together, with measures in the place of their texts."""

from fewtests.shadows import measure_made, measures_of, shadow_of


def start_of(writer):
    """Returns the situation at first, with measures in the place of texts."""
    return 0, measures_of(writer[0])


def moved(writer, situation, kind):
    """Returns the situation behind the kind, or None if the kind is refused, or was a kind before it."""
    if situation is None:
        return None
    state, measures = situation
    entry = writer[1][state][kind]
    if entry is None:
        return None
    target, fills = entry
    return target, tuple([measure_made(recipe, measures) for recipe in fills])


def situation_behind(writer, situation, word):
    """Returns the situation when the word has been read from this one, or None."""
    found = situation
    for kind in word:
        found = moved(writer, found, kind)
    return found


def end_number(writer, situation):
    """Returns the number of the text that ends here, or None if none does."""
    if situation is None:
        return None
    state, measures = situation
    end = writer[2][state]
    if end is None:
        return None
    return measure_made(end, measures)[1]


def joint_start(first, second):
    """Returns the pair of the situations at first."""
    return start_of(first), start_of(second)


def joint_moved(first, second, joint, kind):
    """Returns the pair of the situations behind the kind, None in it for a writer that refused."""
    return moved(first, joint[0], kind), moved(second, joint[1], kind)


def joint_behind(first, second, word):
    """Returns the pair of the situations behind the word, None in it for a writer that refused."""
    one, two = joint_start(first, second)
    return situation_behind(first, one, word), situation_behind(second, two, word)


def pair_of(joint):
    """Returns the pair of states of a joint situation, or None if both writers refused."""
    one, two = joint
    if one is None and two is None:
        return None
    return None if one is None else one[0], None if two is None else two[0]


def counts(pair, inside):
    """Tells whether words with this pair count: unless both writers refuse them; inside, unless the first one does."""
    return pair is not None and not (inside and pair[0] is None)


def joint_shadow(joint):
    """Returns the shadow of a joint situation that one writer at least has not refused."""
    one, two = joint
    if one is None or two is None:
        return (1,)
    return shadow_of(one[1]) + shadow_of(two[1])[1:]


def is_parting(first, second, joint):
    """Tells whether the writers differ at the word that leads here."""
    # Texts are the same exactly if their numbers are.
    return end_number(first, joint[0]) != end_number(second, joint[1])
