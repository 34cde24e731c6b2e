"""Climbs: the heights of all joint states, round by round, and the words that reach them.

In each round those joint states are told anew from which one step more reaches higher than fewer steps did. If this
never ends, some steps lead back to where they began, and weigh more than 0.
"""

from fewtests.fated import begin_value, end_state, end_value, joint_before, pair_words, steps_of, weight_of


class Climb:
    """The heights that were found for two writers and prices.

    words has the pairs, each with a word that leads there; best has for each joint state from which a word can end its
    height and its round; rounds has for each round a dict: joint states with (height, kind, joint state behind it).
    """

    def __init__(self, words, best, rounds):
        self.words = words
        self.best = best
        self.rounds = rounds


def climb_of(first, second, prices):
    """Returns the climb. Its last round is empty, unless the heights have no end."""
    words = pair_words(first, second)
    steps = steps_of(first, second, list(words))
    ends = [pair for pair in words if end_state(first, second, pair) is not None]
    lowest = {end_state(first, second, pair): (end_value(first, second, prices, pair), None, None) for pair in ends}
    best = {joint: (lowest[joint][0], 0) for joint in lowest}
    rounds = [lowest]
    # As many steps as there are joint states come to one of them twice.
    while rounds[-1] and len(rounds) <= len(best):
        grown = {}
        for joint in rounds[-1]:
            for step in steps.get((joint[0], joint[2]), []):
                before = joint_before(step, joint)
                height = weight_of(prices, step, joint) + rounds[-1][joint][0]
                if before not in best or best[before][0] < height:
                    best[before] = (height, len(rounds))
                    grown[before] = (height, step[1], joint)
        rounds.append(grown)
    return Climb(words, best, rounds)


def is_endless(climb):
    """Tells whether the heights have no end."""
    return bool(climb.rounds[-1])


def endless_parts(climb):
    """Returns (u, v, w) for heights without end: v leads back to a joint state and weighs more than 0."""
    start = list(climb.rounds[-1])[0]
    states, kinds = _way_from(climb, start, len(climb.rounds) - 1)
    met = {}
    for index, joint in enumerate(states):
        if joint in met:
            back = met[joint]
            ahead = climb.words[(start[0], start[2])]
            return ahead + kinds[:back], kinds[back:index], kinds[index:]
        met[joint] = index
    return None


def best_beginning(climb, first, second, prices):
    """Returns (n, word) with the greatest surplus and a word that has it, or None if there is no word."""
    starts = [joint for joint in climb.best if (joint[0], joint[2]) == (0, 0)]
    if not starts:
        return None
    values = [begin_value(first, second, prices, joint) + climb.best[joint][0] for joint in starts]
    most = max(values)
    start = starts[values.index(most)]
    _, kinds = _way_from(climb, start, climb.best[start][1])
    return most, kinds


def table_of(climb):
    """Returns the height table of the climb."""
    return tuple(sorted(list(climb.words))), tuple(sorted([joint + (climb.best[joint][0],) for joint in climb.best]))


def _way_from(climb, start, last_round):
    # A pair: the joint states from this one to the end, and the word of the steps between them.
    states = [start]
    kinds = []
    for known in climb.rounds[last_round:0:-1]:
        _, kind, later = known[states[-1]]
        states.append(later)
        kinds.append(kind)
    return states, tuple(kinds)
