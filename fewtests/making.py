"""Making: new writers out of others."""

from fewtests.entries import end_along, entry_along, require_bounds
from fewtests.runs import behind
from fewtests.writers import joined


def together(first, second, either):
    """Returns the writer that goes with both through a word and writes both texts.

    If either, it goes on when one of them has refused, and writes the first one's text, else the second one's.
    """
    pairs = [(0, 0)]
    numbers = {(0, 0): 0}
    rows = []
    # The list grows while it is gone through: so each pair comes in the order of its first word.
    while len(rows) < len(pairs):
        row = []
        for kind in range(len(first[1][0])):
            later, fills = _joint_entry(first, second, either, pairs[len(rows)], kind)
            if fills is None:
                row.append(None)
            else:
                if later not in numbers:
                    numbers[later] = len(pairs)
                    pairs.append(later)
                row.append((numbers[later], fills))
        rows.append(tuple(row))
    ends = [_joint_end(first, second, either, pair) for pair in pairs]
    return require_bounds((first[0] + second[0], tuple(rows), tuple(ends)))


def framed(ahead, writer, after):
    """Returns the writer with a text put ahead of each end's recipe and one behind it."""
    begins, rules, ends = writer
    front, back = _piece(ahead), _piece(after)
    return require_bounds((begins, rules, tuple([None if end is None else joined(front, end, back) for end in ends])))


def begun_behind(writer, word):
    """Returns the writer that begins with the situation behind the word."""
    begins, rules, ends = writer
    situation = behind(writer, word)
    if situation is None:
        return ("",) * len(begins), ((None,) * len(rules[0]),), (None,)
    states = reachable(writer, situation[0])
    rows = [tuple([_renumbered(entry, states) for entry in rules[state]]) for state in states]
    return require_bounds((situation[1], tuple(rows), tuple([ends[state] for state in states])))


def ended_ahead(writer, word):
    """Returns the writer that writes what this one would write if the word came behind all others."""
    begins, rules, _ = writer
    return require_bounds((begins, rules, tuple([end_along(writer, state, word) for state in range(len(rules))])))


def turned(writer):
    """Returns the writer with all texts turned round."""
    begins, rules, ends = writer
    rows = [tuple([_turned_entry(entry) for entry in row]) for row in rules]
    recipes = [None if end is None else _turned_recipe(end) for end in ends]
    return tuple([text[::-1] for text in begins]), tuple(rows), tuple(recipes)


def respelled(writer, texts):
    """Returns the writer with a text in the place of each letter."""
    begins, rules, ends = writer
    rows = [tuple([_respelled_entry(entry, texts) for entry in row]) for row in rules]
    return require_bounds((
        tuple([_respelled_text(text, texts) for text in begins]),
        tuple(rows),
        tuple([None if end is None else _respelled_recipe(end, texts) for end in ends]),
    ))


def led_by(writer, words):
    """Returns the writer with a kind for each of the words, which does what the word does."""
    begins, rules, ends = writer
    rows = [tuple([entry_along(writer, state, word) for word in words]) for state in range(len(rules))]
    return require_bounds((begins, tuple(rows), ends))


def reachable(writer, start):
    """Returns the list of the states that words lead to from this one, in the order of the first such words."""
    states = [start]
    done = 0
    while done < len(states):
        row = writer[1][states[done]]
        for entry in row:
            if entry is not None and entry[0] not in states:
                states.append(entry[0])
        done = done + 1
    return states


def _joint_entry(first, second, either, pair, kind):
    # A pair: the pair of states behind the kind, None for a writer that has refused, and the fills, or None.
    one = None if pair[0] is None else first[1][pair[0]][kind]
    two = None if pair[1] is None else second[1][pair[1]][kind]
    if (one is None and two is None) or (not either and (one is None or two is None)):
        return None, None
    ahead = ((),) * len(first[0]) if one is None else one[1]
    after = ((),) * len(second[0]) if two is None else tuple([_shifted(recipe, len(first[0])) for recipe in two[1]])
    return (None if one is None else one[0], None if two is None else two[0]), ahead + after


def _joint_end(first, second, either, pair):
    one = None if pair[0] is None else first[2][pair[0]]
    two = None if pair[1] is None or second[2][pair[1]] is None else _shifted(second[2][pair[1]], len(first[0]))
    if either:
        return two if one is None else one
    return None if one is None or two is None else joined(one, two)


def _shifted(recipe, many):
    return tuple([part if isinstance(part, str) else part + many for part in recipe])


def _piece(text):
    return (text,) if text else ()


def _renumbered(entry, states):
    if entry is None:
        return None
    # No call of index: errors keep an attribute of that name, and << of a Writer runs this.
    return [number for number, state in enumerate(states) if state == entry[0]][0], entry[1]


def _turned_entry(entry):
    return None if entry is None else (entry[0], tuple([_turned_recipe(recipe) for recipe in entry[1]]))


def _turned_recipe(recipe):
    return tuple([part[::-1] if isinstance(part, str) else part for part in recipe[::-1]])


def _respelled_entry(entry, texts):
    return None if entry is None else (entry[0], tuple([_respelled_recipe(recipe, texts) for recipe in entry[1]]))


def _respelled_recipe(recipe, texts):
    parts = [_respelled_text(part, texts) if isinstance(part, str) else part for part in recipe]
    return tuple([part for part in parts if part != ""])


def _respelled_text(text, texts):
    return "".join([texts[ord(letter) - ord("a")] for letter in text])
