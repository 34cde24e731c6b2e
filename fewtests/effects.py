"""Effects: what a form makes of all that a writer can write."""

from fewtests.forms import effect


def effect_writer(writer, form):
    """Returns the writer with effects in the place of texts and pieces."""
    begins, rules, ends = writer
    return (
        tuple([effect(form, text) for text in begins]),
        tuple([tuple([_entry_effects(form, entry) for entry in row]) for row in rules]),
        tuple([None if end is None else _recipe_effects(form, end) for end in ends]),
    )


def effect_start(machine):
    """Returns the first situation of a writer with effects: a pair of the state and the effects."""
    return 0, machine[0]


def effect_moved(machine, situation, kind):
    """Returns the situation behind the kind, or None if it is refused."""
    state, effects = situation
    entry = machine[1][state][kind]
    if entry is None:
        return None
    target, fills = entry
    many = len(effects[0])
    return target, tuple([_together(recipe, effects, many) for recipe in fills])


def ways_to_effects(machine):
    """Returns a dict with all situations that words lead to, in the order of the first words that do so.

    With each stands what leads there by this word: another situation and a kind, None for the first situation.
    """
    start = effect_start(machine)
    known = {start: None}
    level = [start]
    while level:
        found = []
        for situation in level:
            for kind in range(len(machine[1][0])):
                later = effect_moved(machine, situation, kind)
                if later is not None and later not in known:
                    known[later] = (situation, kind)
                    found.append(later)
        level = found
    return known


def is_accepted(machine, form, situation):
    """Tells whether a text ends here that the form accepts."""
    state, effects = situation
    end = machine[2][state]
    return end is not None and _together(end, effects, len(effects[0]))[0] in form[2]


def _together(recipe, effects, many):
    found = list(range(many))
    for part in recipe:
        follows = part if isinstance(part, tuple) else effects[part]
        found = [follows[state] for state in found]
    return tuple(found)


def _entry_effects(form, entry):
    if entry is None:
        return None
    target, fills = entry
    return target, tuple([_recipe_effects(form, recipe) for recipe in fills])


def _recipe_effects(form, recipe):
    return tuple([effect(form, part) if isinstance(part, str) else part for part in recipe])
