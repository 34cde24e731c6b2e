"""Drafts: what has been read of a text so far. A draft takes a line only if the lines can still become a whole text."""

from fewtests.checks import ascends
from fewtests.forms import MOST_FORM_STATES, are_groups
from fewtests.writers import MOST_BUFFERS, MOST_KINDS, MOST_LETTERS, MOST_STATES, fit_together, is_text

NUMBERS = ("0", "1", "2", "3", "4", "5", "6", "7", "8", "9", "10", "11")
KINDS_OF_WORDS = 4


class WordsDraft:
    """Words."""

    def __init__(self):
        self.words = []

    def takes(self, parts):
        """Takes the parts of the next line if they fit; tells whether they do."""
        word = _numbers_of(parts[1:], KINDS_OF_WORDS)
        if parts[0] != "word" or word is None:
            return False
        self.words.append(word)
        return True

    def is_whole(self):
        """Tells whether the text may end here."""
        return True

    def made(self):
        """Returns what was read."""
        return tuple(self.words)


class FormDraft:
    """A form."""

    def __init__(self):
        self.groups = None
        self.table = []
        self.good = None

    def takes(self, parts):
        """As for words."""
        if self.groups is None:
            return parts[0] == "groups" and self._takes_groups(parts[1:])
        if self.good is not None:
            return False
        if parts[0] == "state":
            return self._takes_row(_numbers_of(parts[1:], MOST_FORM_STATES))
        return parts[0] == "good" and self._takes_good(_numbers_of(parts[1:], len(self.table)))

    def is_whole(self):
        """As for words."""
        return self.good is not None

    def made(self):
        """As for words."""
        return self.groups, tuple(self.table), self.good

    def _takes_groups(self, groups):
        if not are_groups(tuple(groups)):
            return False
        self.groups = tuple(groups)
        return True

    def _takes_row(self, row):
        if row is None or len(row) != len(self.groups) + 1 or len(self.table) == MOST_FORM_STATES:
            return False
        self.table.append(row)
        return True

    def _takes_good(self, good):
        # Behind this line come no states: those that were told must be there.
        if good is None or not self.table or not ascends(good):
            return False
        if max([max(row) for row in self.table]) >= len(self.table):
            return False
        self.good = good
        return True


class WriterDraft:
    """A writer. The next states that are told may still come."""

    def __init__(self):
        self.kinds = None
        self.begins = None
        self.table = []
        self.ends = []
        # The kind of the last entry in this state, where it leads, and the fills that it has so far.
        self.kind = None
        self.target = None
        self.fills = None
        self.is_ended = True

    def takes(self, parts):
        """As for words."""
        if self.kinds is None:
            return parts[0] == "kinds" and self._takes_kinds(parts[1:])
        if self.begins is None:
            return parts[0] == "begin" and self._takes_begins(parts[1:])
        if self.fills is not None:
            return parts[0] == "fill" and self._takes_fill(_recipe_of(parts[1:]))
        if parts == ["state"]:
            return self._takes_state()
        if self.is_ended:
            return False
        if parts[0] == "kind":
            return self._takes_kind(parts)
        return parts[0] == "end" and self._takes_end(_recipe_of(parts[1:]))

    def is_whole(self):
        """As for words."""
        if not self.table or self.fills is not None:
            return False
        targets = [entry[0] for row in self.table for entry in row if entry is not None]
        return max(targets, default=0) < len(self.table)

    def made(self):
        """As for words."""
        return self.begins, tuple([tuple(row) for row in self.table]), tuple(self.ends)

    def _takes_kinds(self, parts):
        if len(parts) != 1 or parts[0] not in NUMBERS[1:MOST_KINDS + 1]:
            return False
        self.kinds = NUMBERS.index(parts[0])
        return True

    def _takes_begins(self, parts):
        if not 1 <= len(parts) <= MOST_BUFFERS or "" in parts:
            return False
        begins = tuple(["" if part == "-" else part for part in parts])
        if not all([is_text(begin, MOST_LETTERS) for begin in begins]):
            return False
        self.begins = begins
        return True

    def _takes_state(self):
        if len(self.table) == MOST_STATES:
            return False
        self.table.append([None for _ in range(self.kinds)])
        self.ends.append(None)
        self.kind = -1
        self.is_ended = False
        return True

    def _takes_kind(self, parts):
        if len(parts) != 4 or parts[2] != "to" or parts[3] not in NUMBERS:
            return False
        if parts[1] not in NUMBERS[self.kind + 1:self.kinds]:
            return False
        self.kind = NUMBERS.index(parts[1])
        self.target = NUMBERS.index(parts[3])
        self.fills = ()
        return True

    def _takes_fill(self, recipe):
        if not fit_together(self.fills + (recipe,), len(self.begins)):
            return False
        self.fills = self.fills + (recipe,)
        if len(self.fills) == len(self.begins):
            self.table[-1][self.kind] = (self.target, self.fills)
            self.fills = None
        return True

    def _takes_end(self, recipe):
        if not fit_together((recipe,), len(self.begins)):
            return False
        self.ends[-1] = recipe
        self.is_ended = True
        return True


def _numbers_of(parts, many):
    # The numbers below many that the parts are, or None if one of them is none.
    if not all([part in NUMBERS[:many] for part in parts]):
        return None
    return tuple([NUMBERS.index(part) for part in parts])


def _recipe_of(parts):
    # Numbers above those of buffers stay texts, which no recipe has.
    return tuple([NUMBERS.index(part) if part in NUMBERS[:MOST_BUFFERS] else part for part in parts])
