"""Parting: the first word at which two small writers differ."""

from fewtests.levels import first_level, next_level
from fewtests.walks import end_number, is_parting, joint_start


def first_difference(first, second):
    """Returns the first word at which the two writers differ, or None."""
    return difference_from(first, second, joint_start(first, second))


def difference_from(first, second, joint):
    """Returns the first word at which they differ when it is read from this joint situation, or None."""
    level, spans = first_level(joint)
    while level:
        for word, later in level:
            if is_parting(first, second, later):
                return word
        level, spans = next_level(first, second, False, level, spans)
    return None


def alike(first, second):
    """Tells whether the two writers differ at no word."""
    return first_difference(first, second) is None


def within(first, second):
    """Tells whether the two writers differ at no word that the first one writes."""
    return first_outside(first, second) is None


def first_outside(first, second):
    """Returns the first word that the first one writes and at which they differ, or None."""
    level, spans = first_level(joint_start(first, second))
    while level:
        for word, joint in level:
            if end_number(first, joint[0]) is not None and is_parting(first, second, joint):
                return word
        level, spans = next_level(first, second, True, level, spans)
    return None
