"""Tables: what shows which texts a writer can write, and how many words are written as a short text."""

from fewtests.contents import counts_of, ends_as, fruitful, in_rows, looping, place_moved, place_start, ways_of
from fewtests.effects import effect_writer, ways_to_effects
from fewtests.fates import fates


def form_table_of(writer, form):
    """Returns the form table of all situations that words lead to."""
    return tuple(sorted(list(ways_to_effects(effect_writer(writer, form)))))


def count_table_of(writer, text):
    """Returns the right count table of all places that words lead to, for a text of finitely many words."""
    ways = ways_of(writer, text)
    counts = counts_of(writer, text, ways)
    heights = _heights_of(ways, fruitful(writer, text, ways))
    return tuple(sorted([place + (counts[place], heights[place]) for place in ways]))


def endless_words(writer, text):
    """Returns (u, v, w) that show that endlessly many words are written as the text."""
    ways = ways_of(writer, text)
    places = fruitful(writer, text, ways)
    loop = looping(ways, places)
    ends = {place: True for place in places if ends_as(writer, text, place)}
    u = _first_way(writer, text, places, [((), place_start(writer, text))], {loop: True})
    v = _first_way(writer, text, places, _next_places(writer, text, places, (), loop), {loop: True})
    w = _first_way(writer, text, places, [((), loop)], ends)
    # The place behind v is the same, but the fates need not be: they come back when v is read once more, or twice.
    times = 1
    found = _with_same_fates(writer, u, v, w, times)
    while found is None:
        times = times + 1
        found = _with_same_fates(writer, u, v, w, times)
    return found


def _heights_of(ways, places):
    heights = {place: 0 for place in ways}
    for place in in_rows(ways, places):
        heights[place] = max([heights[later] + 1 for later in ways[place] if later in places], default=0)
    return heights


def _first_way(writer, text, places, start, goals):
    # The first word that leads from one of the pairs (word, place) at the start through the places to a goal.
    known = {place: True for _, place in start}
    level = start
    while level:
        found = []
        for word, place in level:
            if place in goals:
                return word
            for longer, later in _next_places(writer, text, places, word, place):
                if later not in known:
                    known[later] = True
                    found.append((longer, later))
        level = found
    return None


def _next_places(writer, text, places, word, place):
    moves = [(word + (kind,), place_moved(writer, text, place, kind)) for kind in range(len(writer[1][0]))]
    return [(longer, later) for longer, later in moves if later in places]


def _with_same_fates(writer, u, v, w, times):
    known = fates(writer, u + v * times + w)
    places = [known[len(u) + len(v) * many] for many in range(times + 1)]
    for many, place in enumerate(places):
        if place in places[:many]:
            back = places.index(place)
            return u + v * back, v * (many - back), v * (times - many) + w
    return None
