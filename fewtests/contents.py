"""Contents: what of a short text stands in a small writer's buffers, and the ways that lead to just this text.

A place is a pair (state, contents); contents has for each buffer (1, piece), piece being a part of the text, or (0,).
"""

OTHER = (0,)


def place_start(writer, text):
    """Returns the place of the first situation."""
    return 0, tuple([_content_of(begin, text) for begin in writer[0]])


def place_moved(writer, text, place, kind):
    """Returns the place behind the kind, or None if it is refused."""
    state, contents = place
    entry = writer[1][state][kind]
    if entry is None:
        return None
    target, fills = entry
    return target, tuple([_made(recipe, contents, text) for recipe in fills])


def ends_as(writer, text, place):
    """Tells whether the text ends here."""
    state, contents = place
    end = writer[2][state]
    return end is not None and _made(end, contents, text) == (1, text)


def ways_of(writer, text):
    """Returns a dict with all places that words lead to, each with the list of the places behind it, by each kind."""
    ways = {}
    level = [place_start(writer, text)]
    while level:
        found = []
        for place in level:
            if place not in ways:
                moves = [place_moved(writer, text, place, kind) for kind in range(len(writer[1][0]))]
                ways[place] = [later for later in moves if later is not None]
                found = found + ways[place]
        level = found
    return ways


def fruitful(writer, text, ways):
    """Returns a dict of those places from which some word ends as the text."""
    before = {place: [] for place in ways}
    for place in ways:
        for later in ways[place]:
            before[later].append(place)
    found = {place: True for place in ways if ends_as(writer, text, place)}
    level = list(found)
    while level:
        earlier = []
        for place in level:
            for other in before[place]:
                if other not in found:
                    found[other] = True
                    earlier.append(other)
        level = earlier
    return found


def counts_of(writer, text, ways):
    """Returns a dict: how many words end as the text from each place; None if there is a place without an end."""
    places = fruitful(writer, text, ways)
    rows = in_rows(ways, places)
    if len(rows) < len(places):
        return None
    counts = {place: 0 for place in ways}
    for place in rows:
        counts[place] = int(ends_as(writer, text, place)) + sum([counts[later] for later in ways[place]])
    return counts


def in_rows(ways, places):
    """Returns a list of places, each behind all those that it leads to; without those that lead to a place that loops.

    The places are a dict; ways to others than these do not count.
    """
    left = {place: len([later for later in ways[place] if later in places]) for place in places}
    before = {place: [] for place in places}
    for place in places:
        for later in ways[place]:
            if later in places:
                before[later].append(place)
    found = [place for place in places if left[place] == 0]
    done = 0
    while done < len(found):
        earlier = before[found[done]]
        for place in earlier:
            left[place] = left[place] - 1
            if left[place] == 0:
                found.append(place)
        done = done + 1
    return found


def looping(ways, places):
    """Returns one of the places from which a way leads back to it, or None if there is none."""
    rows = {place: True for place in in_rows(ways, places)}
    rest = [place for place in places if place not in rows]
    met = {}
    while rest and rest[0] not in met:
        met[rest[0]] = True
        rest = [later for later in ways[rest[0]] if later in places and later not in rows]
    return rest[0] if rest else None


def _made(recipe, contents, text):
    pieces = [part if isinstance(part, str) else _piece_in(contents[part]) for part in recipe]
    if None in pieces:
        return OTHER
    return _content_of("".join(pieces), text)


def _piece_in(content):
    return None if content == OTHER else content[1]


def _content_of(piece, text):
    return (1, piece) if piece in text else OTHER
