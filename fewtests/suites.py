"""Suites: test words that are enough to compare two small writers, or one with itself behind a word."""

from fewtests.gaps import fine_open_at, gone_at, joints_of, open_at, situations_of, spans_of
from fewtests.levels import kept_words
from fewtests.spans import held, span_at, taken
from fewtests.walks import counts, joint_behind, joint_shadow, pair_of
from fewtests.words import are_tests, in_order


def is_closed(first, second, tests):
    """Tells whether the value is tests that are closed for the two writers."""
    return _is_closed(first, second, tests, False)


def is_closed_within(first, second, tests):
    """Tells whether the value is tests that are closed within for the two writers."""
    return _is_closed(first, second, tests, True)


def is_fine(writer, word, tests):
    """Tells whether the value is tests that are fine for the writer behind the word."""
    if not are_tests(tests, len(writer[1][0])):
        return False
    situations = situations_of(writer, word, tests)
    return None not in situations and fine_open_at(writer, situations) is None


def closed_tests(first, second):
    """Returns closed tests, the fewest, each word having fewer kinds than there are tests."""
    return kept_words(first, second, False)


def fewest_tests(first, second):
    """Returns how many tests are closed at the least."""
    return len(closed_tests(first, second))


def uncovered(first, second, words):
    """Returns the least word that is missed to know by the words whether the writers are alike, or None."""
    if () not in words:
        return ()
    joints = [joint for joint in joints_of(first, second, in_order(words)) if counts(pair_of(joint), False)]
    spans = spans_of(joints)
    for word in in_order([word + (kind,) for word in words for kind in range(len(first[1][0]))]):
        joint = joint_behind(first, second, word)
        pair = pair_of(joint)
        if counts(pair, False):
            same = held(span_at(spans, pair), joint_shadow(joint))
            if same is None:
                return word
            spans[pair] = same
    return None


def lacking(first, second, words):
    """Returns the fewest words, ascending, that must be added to the words so that all are closed."""
    spans = spans_of(joints_of(first, second, in_order(words)))
    added = []
    for word in closed_tests(first, second):
        joint = joint_behind(first, second, word)
        pair = pair_of(joint)
        grew, spans[pair] = taken(span_at(spans, pair), joint_shadow(joint))
        if grew:
            added.append(word)
    return tuple(added)


def _is_closed(first, second, tests, inside):
    if not are_tests(tests, len(first[1][0])):
        return False
    joints = joints_of(first, second, tests)
    return gone_at(joints, inside) is None and open_at(first, second, joints, inside) is None
