"""Meets: words that are written as a text of some form, or as just one short text."""

from fewtests.contents import counts_of, ends_as, place_moved, place_start, ways_of
from fewtests.effects import effect_writer, is_accepted, ways_to_effects
from fewtests.forms import opposite


def first_accepted(writer, form):
    """Returns the first word that is written with a text that the form accepts, or None."""
    machine = effect_writer(writer, form)
    known = ways_to_effects(machine)
    for situation in known:
        if is_accepted(machine, form, situation):
            return _word_to(known, situation)
    return None


def all_fit(writer, form):
    """Tells whether the form accepts the texts of all words that are written."""
    return first_accepted(writer, opposite(form)) is None


def words_for(writer, text, many):
    """Returns the first so many words that are written as the text, fewer if there are no more."""
    found = []
    visits = {}
    level = [((), place_start(writer, text))]
    while level and len(found) < many:
        longer = []
        for word, place in level:
            times = visits[place] if place in visits else 0
            # What so many words before this one lead to, this one need not: they come first, whatever follows.
            if times < many:
                visits[place] = times + 1
                if ends_as(writer, text, place):
                    found.append(word)
                longer.extend(_longer_words(writer, text, word, place))
        level = longer
    return tuple(found[:many])


def how_many_for(writer, text):
    """Returns how many words are written as the text, or None if they have no end."""
    ways = ways_of(writer, text)
    counts = counts_of(writer, text, ways)
    return None if counts is None else counts[place_start(writer, text)]


def _word_to(known, situation):
    kinds = []
    step = known[situation]
    while step is not None:
        kinds.append(step[1])
        step = known[step[0]]
    return tuple(kinds[::-1])


def _longer_words(writer, text, word, place):
    moves = [(word + (kind,), place_moved(writer, text, place, kind)) for kind in range(len(writer[1][0]))]
    return [(longer, later) for longer, later in moves if later is not None]
