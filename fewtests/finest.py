"""Finest: the fewest fine tests behind a word.

All shadows that can come in a state make a module: their fine sums. Modulo 29 times itself it is a space over the
integers modulo 29, and tests whose shadows are a basis there are a basis of the module, too.
"""

from fewtests.fine import parts_of, pivots_of
from fewtests.residues import rest_of, step_of
from fewtests.shadows import BASE, shadow_of
from fewtests.spans import span_at, taken
from fewtests.walks import moved

FIRST_MODULUS = 29 * 29 * 29 * 29


def finest_tests(writer, start):
    """Returns the fewest fine tests from this situation on, ascending, each but () one of them and a kind."""
    modules, modulus = _modules_of(writer, start)
    steps = {}
    tests = []
    level = [((), start)]
    while level:
        kept = []
        for word, situation in level:
            state = situation[0]
            before = steps[state] if state in steps else ()
            parts = parts_of(modules[state], modulus, shadow_of(situation[1]))
            rest = rest_of(parts, before, BASE)
            if any(rest):
                steps[state] = before + (step_of(rest, BASE),)
                kept.append((word, situation))
        tests = tests + [word for word, _ in kept]
        level = _next_words(writer, kept)
    return tuple(tests)


def _next_words(writer, level):
    longer = []
    for word, situation in level:
        for kind in range(len(writer[1][0])):
            later = moved(writer, situation, kind)
            if later is not None:
                longer.append((word + (kind,), later))
    return longer


def _modules_of(writer, start):
    # A pair: for each state the steps of its module modulo a power of 29, and this power. It must be so great that no
    # pivot looks like 0: then there are as many as the dimension is.
    many = _dimensions_of(writer, start)
    modulus = FIRST_MODULUS
    modules = _modules_modulo(writer, start, modulus)
    while sum([len(modules[state]) for state in modules]) < many:
        modulus = modulus * modulus
        modules = _modules_modulo(writer, start, modulus)
    return modules, modulus


def _modules_modulo(writer, start, modulus):
    rows = {}
    modules = {}
    level = [((), start)]
    while level:
        kept = []
        for word, situation in level:
            state = situation[0]
            row = shadow_of(situation[1])
            if state not in rows or parts_of(modules[state], modulus, row) is None:
                known = rows[state] + [row] if state in rows else [row]
                pivots = pivots_of(known, modulus)
                rows[state] = [known[index] for index, _ in pivots]
                modules[state] = [step for _, step in pivots]
                kept.append((word, situation))
        level = _next_words(writer, kept)
    return modules


def _dimensions_of(writer, start):
    # The dimensions of the shadows in all states, together.
    spans = {}
    level = [((), start)]
    while level:
        kept = []
        for word, situation in level:
            grew, spans[situation[0]] = taken(span_at(spans, situation[0]), shadow_of(situation[1]))
            if grew:
                kept.append((word, situation))
        level = _next_words(writer, kept)
    return sum([len(spans[state].rows) for state in spans])
