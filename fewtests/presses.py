"""Presses: live reading that sends at once what is sure of the text."""

from fewtests.checks import is_in
from fewtests.endings import endings_of
from fewtests.errors import AlreadySent, Differs, KindsDiffer, NotWritten, TooFar, UnknownKind
from fewtests.parting import difference_from
from fewtests.sending import begun_anew, ended, is_possible, read_by, run_of, taken_back, taken_over
from fewtests.walks import situation_behind, start_of
from fewtests.writers import require_small


class Press:
    """Reads kinds by a small writer, and has always sent the sure text of the word that was read."""

    def __init__(self, writer):
        self._run = run_of(require_small(writer, None))

    @property
    def sent(self):
        """The text that was sent."""
        return self._run.sure

    def __len__(self):
        return len(self._run.kinds)

    def __iadd__(self, other):
        if not isinstance(other, tuple):
            raise UnknownKind(other)
        self._run = read_by(self._run, other)
        return self

    def read(self, kind):
        """Reads a kind; returns the text that is newly sent."""
        return self._go_on(read_by(self._run, (kind,)))

    def history(self):
        """Returns the word that was read."""
        return self._run.kinds

    def writer(self):
        """Returns the writer."""
        return self._run.base

    def possible(self):
        """Returns the ascending tuple of the kinds behind which something can still come."""
        state = self._run.situation[0]
        kinds = range(len(self._run.base[1][0]))
        return tuple([kind for kind in kinds if is_possible(self._run, state, kind)])

    def rest(self):
        """Returns the text that is still to be sent if the word ends here, None if it is not written."""
        text = ended(self._run)
        return None if text is None else text[len(self._run.sure):]

    def finish(self):
        """Returns the same and begins anew; raises NotWritten if the word is not written."""
        text = self.rest()
        if text is None:
            raise NotWritten()
        self._run = begun_anew(self._run)
        return text

    def back(self, many):
        """Takes back the last so many kinds, if nothing that was sent depends on them."""
        if not is_in(many, 0, len(self._run.kinds)):
            raise TooFar(many)
        shorter = taken_back(self._run, many)
        if shorter.sure != self._run.sure:
            raise AlreadySent(shorter.sure)
        self._run = shorter

    def carry_on(self, writer):
        """Goes on with another writer, which writes the same for all words that begin with the word read."""
        other = self._require_other(writer)
        base, word = self._run.base, self._run.kinds
        ones = situation_behind(base, start_of(base), word)
        twos = situation_behind(other, start_of(other), word)
        found = difference_from(base, other, (ones, twos))
        if found is not None:
            raise Differs(found)
        self._run = taken_over(self._run, other, endings_of(other))

    def change(self, writer):
        """Goes on with another writer, whose sure text begins with all that was sent; returns what is newly sent."""
        other = self._require_other(writer)
        return self._go_on(taken_over(self._run, other, endings_of(other)))

    def _require_other(self, value):
        other = require_small(value, None)
        if len(other[1][0]) != len(self._run.base[1][0]):
            raise KindsDiffer()
        return other

    def _go_on(self, run):
        new = run.sure[len(self._run.sure):]
        self._run = run
        return new
