"""Suites: test words that are enough to compare two small writers, or one with itself behind a word."""

from fewtests.fine import fine_held, fine_taken, no_fine_span
from fewtests.levels import kept_words
from fewtests.shadows import shadow_of
from fewtests.spans import held, span_at, taken
from fewtests.walks import counts, joint_behind, joint_moved, joint_shadow, moved, pair_of, situation_behind, start_of
from fewtests.words import are_tests, in_order


def is_closed(first, second, tests):
    """Tells whether the value is tests that are closed for the two writers."""
    return _is_closed(first, second, tests, False)


def is_closed_within(first, second, tests):
    """Tells whether the value is tests that are closed within for the two writers."""
    return _is_closed(first, second, tests, True)


def is_fine(writer, word, tests):
    """Tells whether the value is tests that are fine for the writer behind the word."""
    kinds = len(writer[1][0])
    if not are_tests(tests, kinds):
        return False
    situations = _situations_of(writer, word, tests)
    if None in situations:
        return False
    spans = {}
    for state, measures in situations:
        span = spans[state] if state in spans else no_fine_span()
        _, spans[state] = fine_taken(span, shadow_of(measures))
    for situation in situations:
        for kind in range(kinds):
            later = moved(writer, situation, kind)
            if later is not None:
                span = spans[later[0]] if later[0] in spans else no_fine_span()
                same = fine_held(span, shadow_of(later[1]))
                if same is None:
                    return False
                spans[later[0]] = same
    return True


def closed_tests(first, second):
    """Returns closed tests, the fewest, each word having fewer kinds than there are tests."""
    return kept_words(first, second, False)


def fewest_tests(first, second):
    """Returns how many tests are closed at the least."""
    return len(closed_tests(first, second))


def uncovered(first, second, words):
    """Returns the least word that is missed to know by the words whether the writers are alike, or None."""
    if () not in words:
        return ()
    joints = [joint for joint in _joints_of(first, second, in_order(words)) if counts(pair_of(joint), False)]
    spans = _spans_of(joints)
    for word in in_order([word + (kind,) for word in words for kind in range(len(first[1][0]))]):
        joint = joint_behind(first, second, word)
        pair = pair_of(joint)
        if counts(pair, False):
            same = held(span_at(spans, pair), joint_shadow(joint))
            if same is None:
                return word
            spans[pair] = same
    return None


def lacking(first, second, words):
    """Returns the fewest words, ascending, that must be added to the words so that all are closed."""
    spans = _spans_of(_joints_of(first, second, in_order(words)))
    added = []
    for word in closed_tests(first, second):
        joint = joint_behind(first, second, word)
        pair = pair_of(joint)
        grew, spans[pair] = taken(span_at(spans, pair), joint_shadow(joint))
        if grew:
            added.append(word)
    return tuple(added)


def _is_closed(first, second, tests, inside):
    kinds = len(first[1][0])
    if not are_tests(tests, kinds):
        return False
    joints = _joints_of(first, second, tests)
    if not all([counts(pair_of(joint), inside) for joint in joints]):
        return False
    spans = _spans_of(joints)
    for joint in joints:
        for kind in range(kinds):
            later = joint_moved(first, second, joint, kind)
            pair = pair_of(later)
            if counts(pair, inside):
                same = held(span_at(spans, pair), joint_shadow(later))
                if same is None:
                    return False
                spans[pair] = same
    return True


def _joints_of(first, second, words):
    # The joint situations behind the words; a word is often one of those before it and a kind more.
    known = {}
    for word in words:
        shorter = word[:-1]
        if word and shorter in known:
            known[word] = joint_moved(first, second, known[shorter], word[-1])
        else:
            known[word] = joint_behind(first, second, word)
    return [known[word] for word in words]


def _situations_of(writer, word, tests):
    # The situations behind the word and each test, as for joint ones.
    start = situation_behind(writer, start_of(writer), word)
    known = {}
    for test in tests:
        shorter = test[:-1]
        if test and shorter in known:
            known[test] = moved(writer, known[shorter], test[-1])
        else:
            known[test] = situation_behind(writer, start, test)
    return [known[test] for test in tests]


def _spans_of(joints):
    # For each pair the span of the shadows of the joint situations with this pair.
    spans = {}
    for joint in joints:
        pair = pair_of(joint)
        _, spans[pair] = taken(span_at(spans, pair), joint_shadow(joint))
    return spans
