"""Gaps: what tests lack that should be closed, or fine.

That is the first one that should not be there, or that leaves a word open.
"""

from fewtests.checks import first_true
from fewtests.fine import fine_held, fine_taken, no_fine_span
from fewtests.shadows import shadow_of
from fewtests.spans import held, span_at, taken
from fewtests.walks import counts, joint_behind, joint_moved, joint_shadow, moved, pair_of, situation_behind, start_of
from fewtests.words import place_of


def joints_of(first, second, words):
    """Returns the list of the joint situations behind the words."""
    # A word is often one of those before it and a kind more.
    known = {}
    for word in words:
        shorter = word[:-1]
        if word and shorter in known:
            known[word] = joint_moved(first, second, known[shorter], word[-1])
        else:
            known[word] = joint_behind(first, second, word)
    return [known[word] for word in words]


def situations_of(writer, word, tests):
    """Returns the list of the situations behind the word and each test, with measures, None for refused ones."""
    start = situation_behind(writer, start_of(writer), word)
    known = {}
    for test in tests:
        shorter = test[:-1]
        if test and shorter in known:
            known[test] = moved(writer, known[shorter], test[-1])
        else:
            known[test] = situation_behind(writer, start, test)
    return [known[test] for test in tests]


def spans_of(joints):
    """Returns for each pair the span of the shadows of the joint situations with this pair."""
    spans = {}
    for joint in joints:
        pair = pair_of(joint)
        _, spans[pair] = taken(span_at(spans, pair), joint_shadow(joint))
    return spans


def gone_at(joints, inside):
    """Returns the index of the first joint situation that does not count, or None."""
    return first_true([not counts(pair_of(joint), inside) for joint in joints])


def open_at(first, second, joints, inside):
    """Returns (j, kind) for the first of the tests and the least kind behind it that are no sum of tests, or None."""
    spans = spans_of(joints)
    for index, joint in enumerate(joints):
        for kind in range(len(first[1][0])):
            if not _is_covered(spans, joint_moved(first, second, joint, kind), inside):
                return index, kind
    return None


def open_before(first, second, tests, word):
    """Returns the same for words before this one, sums of tests that do not come after them."""
    joints = joints_of(first, second, tests)
    spans = {}
    done = 0
    for index, joint in enumerate(joints):
        for kind in range(len(first[1][0])):
            longer = tests[index] + (kind,)
            if place_of(longer) >= place_of(word):
                return None
            # The longer words ascend as the tests do: no test is passed by twice.
            while done < len(tests) and place_of(tests[done]) <= place_of(longer):
                pair = pair_of(joints[done])
                _, spans[pair] = taken(span_at(spans, pair), joint_shadow(joints[done]))
                done = done + 1
            if not _is_covered(spans, joint_moved(first, second, joint, kind), False):
                return index, kind
    return None


def double_at(rows):
    """Returns the index of the first of the pairs (key, shadow) that is a sum of those before it, or None."""
    spans = {}
    for index, (key, row) in enumerate(rows):
        grew, spans[key] = taken(span_at(spans, key), row)
        if not grew:
            return index
    return None


def fine_open_at(writer, situations):
    """Returns (j, kind) for the first of the situations and the least kind behind it that are no fine sum, or None."""
    spans = {}
    for state, measures in situations:
        span = spans[state] if state in spans else no_fine_span()
        _, spans[state] = fine_taken(span, shadow_of(measures))
    for index, situation in enumerate(situations):
        for kind in range(len(writer[1][0])):
            later = moved(writer, situation, kind)
            if later is not None:
                span = spans[later[0]] if later[0] in spans else no_fine_span()
                same = fine_held(span, shadow_of(later[1]))
                if same is None:
                    return index, kind
                spans[later[0]] = same
    return None


def _is_covered(spans, joint, inside):
    # The span is kept with the checks that were needed to tell.
    pair = pair_of(joint)
    if not counts(pair, inside):
        return True
    same = held(span_at(spans, pair), joint_shadow(joint))
    if same is None:
        return False
    spans[pair] = same
    return True
