"""Words: their order, and whether any value is a word, or tests."""

from fewtests.checks import ascends, is_index

MOST_KINDS_IN_A_TEST = 300


def in_order(words):
    """Returns the list of the words, each once, by their length, then as tuples."""
    once = {word: True for word in words}
    return sorted(list(once), key=place_of)


def place_of(word):
    """Returns what words are ordered by."""
    return len(word), word


def is_word(value, kinds, most):
    """Tells whether value is a word of at most so many kinds, each from 0 to kinds - 1."""
    return isinstance(value, tuple) and len(value) <= most and all([is_index(kind, kinds) for kind in value])


def are_tests(value, kinds):
    """Tells whether value is a tuple of words of at most 300 kinds, strictly ascending, the first one being ()."""
    if not isinstance(value, tuple) or not value or value[0] != ():
        return False
    if not all([is_word(word, kinds, MOST_KINDS_IN_A_TEST) for word in value]):
        return False
    return ascends([place_of(word) for word in value])
