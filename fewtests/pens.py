"""Pens: writers as values, with signs that make new ones."""

from fewtests.checks import is_index
from fewtests.errors import KindsDiffer, UnknownEntry
from fewtests.making import begun_behind, ended_ahead, framed, led_by, reachable, respelled, together, turned
from fewtests.parting import alike, within
from fewtests.runs import text_for
from fewtests.words import is_word
from fewtests.writers import require_writer


class Writer:
    """A writer as a value. It does not change."""

    def __init__(self, value):
        self.value = require_writer(value)

    @classmethod
    def constant(cls, text, *, kinds=1):
        """Returns the Writer that writes the text for each word of so many kinds."""
        return cls(((text,), (((0, ((0,),)),) * kinds,), ((0,),)))

    def spelled(self, texts):
        """Returns the Writer with one of the 26 texts in the place of each letter."""
        return Writer(respelled(self.value, texts))

    def led(self, words):
        """Returns the Writer with a kind for each of the words, which does what the word does."""
        return Writer(led_by(self.value, words))

    def is_within(self, other):
        """Tells whether the two differ at no word that this one writes."""
        _require_same_kinds(self.value, other.value)
        return within(self.value, other.value)

    def __call__(self, word):
        return text_for(self.value, word)

    def __contains__(self, value):
        rules = self.value[1]
        if not isinstance(value, tuple) or not is_word(value, len(rules[0]), len(value)):
            return False
        # The states are enough: texts of long words would only take time.
        state = 0
        for kind in value:
            if rules[state][kind] is None:
                return False
            state = rules[state][kind][0]
        return self.value[2][state] is not None

    def __len__(self):
        return len(self.value[1])

    def __bool__(self):
        return any([self.value[2][state] is not None for state in reachable(self.value, 0)])

    def __iter__(self):
        raise TypeError("a Writer is not gone through")

    def __getitem__(self, at):
        state, kind = at
        rules = self.value[1]
        if not is_index(state, len(rules)):
            raise UnknownEntry(state)
        if not is_index(kind, len(rules[0])):
            raise UnknownEntry(kind)
        return rules[state][kind]

    def __eq__(self, other):
        if not isinstance(other, Writer) or len(self.value[1][0]) != len(other.value[1][0]):
            return False
        return alike(self.value, other.value)

    def __add__(self, other):
        if isinstance(other, str):
            return Writer(framed("", self.value, other))
        _require_same_kinds(self.value, other.value)
        return Writer(together(self.value, other.value, False))

    def __radd__(self, other):
        return Writer(framed(other, self.value, ""))

    def __or__(self, other):
        _require_same_kinds(self.value, other.value)
        return Writer(together(self.value, other.value, True))

    def __invert__(self):
        return Writer(turned(self.value))

    def __lshift__(self, other):
        return Writer(begun_behind(self.value, other))

    def __rshift__(self, other):
        return Writer(ended_ahead(self.value, other))


def _require_same_kinds(first, second):
    if len(first[1][0]) != len(second[1][0]):
        raise KindsDiffer()
