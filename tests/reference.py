"""What the tests hold the program against: the document's words, done slowly and by another way."""

import random
from fractions import Fraction

from fewtests.runs import behind, text_for
from fewtests.shadows import pair_shadow, shadow

ONE = (("",), (((0, ((0, "ab"),)),),), ((0, "a"),))
TWO = (("",), (((0, ((0, "ba"),)),),), (("a", 0),))
THREE = (("",), (((0, (("a", 0, "b"),)),),), ((0, "a"),))
FORK = (("",), (((1, (("aa",),)), (1, (("ab",),)), (1, (("ba",),))), (None, None, None)), (None, (0,)))


def place_of(word):
    return len(word), word


def ascending(words):
    return tuple(sorted(set(words), key=place_of))


def words_up_to(kinds, length):
    words = [()]
    for start in words:
        if len(start) < length:
            words.extend(start + (kind,) for kind in range(kinds))
    return words


def product(row, other):
    return sum(one * two for one, two in zip(row, other))


def rank_of(rows):
    table = [[Fraction(value) for value in row] for row in rows]
    rank = 0
    for column in range(len(table[0]) if table else 0):
        at = next((i for i in range(rank, len(table)) if table[i][column]), None)
        if at is None:
            continue
        table[rank], table[at] = table[at], table[rank]
        for i in range(rank + 1, len(table)):
            times = table[i][column] / table[rank][column]
            table[i] = [value - times * other for value, other in zip(table[i], table[rank])]
        rank += 1
    return rank


def is_sum_of(rows, row):
    return rank_of(list(rows) + [row]) == rank_of(rows)


def twenty_nines(value):
    many = 0
    while value % 29 == 0:
        value //= 29
        many += 1
    return many


def pair_behind(first, second, word):
    one, two = behind(first, word), behind(second, word)
    if one is None and two is None:
        return None
    return (None if one is None else one[0], None if two is None else two[0])


def counts(pair, inside):
    return pair is not None and not (inside and pair[0] is None)


def shadows_by_pair(first, second, words):
    found = {}
    for word in words:
        found.setdefault(pair_behind(first, second, word), []).append(pair_shadow(first, second, word))
    return found


def closed_by_words(first, second, tests, inside=False):
    """The definition, for tests that are words in order with () first."""
    if not all(counts(pair_behind(first, second, test), inside) for test in tests):
        return False
    known = shadows_by_pair(first, second, tests)
    for test in tests:
        for kind in range(len(first[1][0])):
            word = test + (kind,)
            pair = pair_behind(first, second, word)
            if counts(pair, inside) and not is_sum_of(known.get(pair, []), pair_shadow(first, second, word)):
                return False
    return True


def fewest_closed(first, second, inside=False):
    """The words that are no sums of those before them: fewest closed tests."""
    known, found, left = {}, [], [()]
    for word in left:
        pair = pair_behind(first, second, word)
        if counts(pair, inside):
            rows = known.setdefault(pair, [])
            row = pair_shadow(first, second, word)
            if not is_sum_of(rows, row):
                rows.append(row)
                found.append(word)
                left.extend(word + (kind,) for kind in range(len(first[1][0])))
    return tuple(found)


def shadow_at(writer, word):
    situation = behind(writer, word)
    return None if situation is None else (situation[0], shadow(situation))


def first_of(words, holds):
    return next((word for word in words if holds(word)), None)


def is_outside(first, second, word):
    text = text_for(first, word)
    return text is not None and text != text_for(second, word)


class Maker:
    """Makes writers, the same ones each time."""

    def __init__(self, seed):
        self.random = random.Random(seed)

    def text(self, most, letters="ab"):
        return "".join(self.random.choice(letters) for _ in range(self.random.randint(0, most)))

    def recipes(self, groups, most, letters):
        parts = [[] for _ in groups]
        left = most
        for at, buffers in enumerate(groups):
            for place in range(len(buffers) + 1):
                piece = self.text(min(left, 3 if most < 24 else most), letters) if self.random.random() < 0.5 else ""
                left -= len(piece)
                if piece:
                    parts[at].append(piece)
                parts[at].extend(buffers[place:place + 1])
        return tuple(tuple(part) for part in parts)

    def fills(self, buffers, most, letters):
        groups = [[] for _ in range(buffers)]
        for buffer in self.random.sample(range(buffers), buffers):
            chance = self.random.random()
            if chance < 0.9:
                groups[buffer if chance < 0.6 else self.random.randrange(buffers)].append(buffer)
        return self.recipes(groups, most, letters)

    def writer(self, states=None, kinds=None, buffers=None, most=2, letters="ab", refused=0.15):
        states = states or self.random.randint(1, 3)
        kinds = kinds or self.random.randint(1, 3)
        buffers = buffers or self.random.randint(1, 2)
        rules = tuple(
            tuple(
                None
                if self.random.random() < refused
                else (self.random.randrange(states), self.fills(buffers, most, letters))
                for _ in range(kinds)
            )
            for _ in range(states)
        )
        ends = tuple(
            None if self.random.random() < refused else self.recipes([list(range(buffers))], most, letters)[0]
            for _ in range(states)
        )
        return (tuple(self.text(most, letters) for _ in range(buffers)), rules, ends)

    def changed(self, writer):
        """The writer with one entry or end taken away or led elsewhere."""
        begins, rules, ends = writer
        state = self.random.randrange(len(rules))
        kind = self.random.randrange(len(rules[0]))
        chance = self.random.random()
        if chance < 0.3:
            return (begins, rules, ends[:state] + (None,) + ends[state + 1:])
        entry = rules[state][kind]
        if chance < 0.6 or entry is None:
            entry = None
        else:
            entry = (self.random.randrange(len(rules)), entry[1])
        row = rules[state][:kind] + (entry,) + rules[state][kind + 1:]
        return (begins, rules[:state] + (row,) + rules[state + 1:], ends)

    def pair(self):
        """Two writers that are alike, or nearly so, or not at all."""
        first = self.writer()
        chance = self.random.random()
        second = self.writer(kinds=len(first[1][0])) if chance < 0.3 else first
        if self.random.random() < 0.4:
            second = exchanged(second)
        if self.random.random() < 0.4 and len(second[1]) <= 2:
            second = doubled(second)
        if self.random.random() < 0.5:
            second = self.changed(second)
        return (first, second) if self.random.random() < 0.5 else (second, first)


def exchanged(writer):
    """The writer with its two buffers numbered the other way."""
    begins, rules, ends = writer
    if len(begins) != 2:
        return writer

    def other(recipe):
        return tuple(part if isinstance(part, str) else 1 - part for part in recipe)

    rules = tuple(
        tuple(None if entry is None else (entry[0], tuple(map(other, entry[1][::-1]))) for entry in row)
        for row in rules
    )
    return (begins[::-1], rules, tuple(None if end is None else other(end) for end in ends))


def doubled(writer):
    """The writer with each state twice: entries lead from one half to the other."""
    begins, rules, ends = writer
    many = len(rules)
    rows = [
        tuple(None if entry is None else (entry[0] + many - start, entry[1]) for entry in row)
        for start in (0, many)
        for row in rules
    ]
    return (begins, tuple(rows), ends + ends)
