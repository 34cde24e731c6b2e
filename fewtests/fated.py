"""Fated: joint states, the steps between them, and what these weigh.

A joint state is a tuple (p, f, q, g): states and fates of two writers. Its height is the greatest surplus that the rest
of a word can bring from there.
"""

from fewtests.fates import entries_along, fates, fates_at_end, fates_before, worth


def pair_words(first, second):
    """Returns a dict with the pairs of states to which words lead that none refuses, each with the first such word."""
    words = {(0, 0): ()}
    level = [(0, 0)]
    while level:
        found = []
        for pair in level:
            for kind, one, two in moves_from(first, second, pair):
                later = (one[0], two[0])
                if later not in words:
                    words[later] = words[pair] + (kind,)
                    found.append(later)
        level = found
    return words


def moves_from(first, second, pair):
    """Returns the list of (kind, entry, entry) for all kinds for which both writers have an entry."""
    entries = [(first[1][pair[0]][kind], second[1][pair[1]][kind]) for kind in range(len(first[1][0]))]
    return [(kind, one, two) for kind, (one, two) in enumerate(entries) if one is not None and two is not None]


def steps_of(first, second, pairs):
    """Returns a dict: for pairs the list of (pair, kind, fills, fills) that lead there from one of these pairs."""
    steps = {}
    for pair in pairs:
        for kind, one, two in moves_from(first, second, pair):
            later = (one[0], two[0])
            known = steps[later] if later in steps else []
            steps[later] = known + [(pair, kind, one[1], two[1])]
    return steps


def joint_before(step, joint):
    """Returns the joint state from which the step goes to this one."""
    pair, _, one, two = step
    return pair[0], fates_before(one, joint[1]), pair[1], fates_before(two, joint[3])


def weight_of(prices, step, joint):
    """Returns the weight of the step to this joint state."""
    _, _, one, two = step
    return _fills_worth(prices, one, joint[1]) - _fills_worth(prices, two, joint[3])


def joints_along(first, second, word):
    """Returns the list of the joint states behind all beginnings of a word that both writers write."""
    ones, twos = states_along(first, word), states_along(second, word)
    return list(zip(ones, fates(first, word), twos, fates(second, word)))


def steps_along(first, second, word):
    """Returns the list of the steps between these joint states."""
    ones, twos = states_along(first, word), states_along(second, word)
    entries = list(zip(entries_along(first, word), entries_along(second, word)))
    return [((ones[at], twos[at]), word[at], one[1], two[1]) for at, (one, two) in enumerate(entries)]


def states_along(writer, word):
    """Returns the list of the states behind all beginnings of a word that is not refused."""
    return [0] + [entry[0] for entry in entries_along(writer, word)]


def begin_value(first, second, prices, joint):
    """Returns the value of a joint state of the first situations."""
    return _begins_worth(prices, first[0], joint[1]) - _begins_worth(prices, second[0], joint[3])


def end_state(first, second, pair):
    """Returns the end state of the pair, or None if there is none."""
    if first[2][pair[0]] is None or second[2][pair[1]] is None:
        return None
    return pair[0], fates_at_end(first, pair[0]), pair[1], fates_at_end(second, pair[1])


def end_value(first, second, prices, pair):
    """Returns the value of the end state of the pair."""
    return _pieces_worth(prices, first[2][pair[0]]) - _pieces_worth(prices, second[2][pair[1]])


def _fills_worth(prices, fills, fates_behind):
    return sum([_pieces_worth(prices, recipe) for recipe, fate in zip(fills, fates_behind) if fate == 1])


def _begins_worth(prices, begins, fates_at_first):
    return sum([worth(prices, text) for text, fate in zip(begins, fates_at_first) if fate == 1])


def _pieces_worth(prices, recipe):
    return sum([worth(prices, part) for part in recipe if isinstance(part, str)])
