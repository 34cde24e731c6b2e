"""Sending: what a press has read and sent. Each step gives a new run and leaves the old one as it is."""

from fewtests.checks import is_index
from fewtests.endings import endings_of
from fewtests.errors import AlreadySent, LimitExceeded, NoOutcome, Refused, UnknownKind
from fewtests.runs import behind, behind_from, text_from
from fewtests.sure import sure_behind

MOST_KINDS_READ = 60


class Run:
    """A writer, the endings of its states, the word that was read, the situation behind it, and its sure text."""

    def __init__(self, base, endings, kinds, situation, sure):
        self.base = base
        self.endings = endings
        self.kinds = kinds
        self.situation = situation
        self.sure = sure


def run_of(writer):
    """Returns the run of the writer with the word (); raises NoOutcome if no word is written."""
    run = _at(writer, endings_of(writer), (), (0, writer[0]))
    if run.sure is None:
        raise NoOutcome()
    return run


def begun_anew(run):
    """Returns the run of the same writer with the word ()."""
    return _at(run.base, run.endings, (), (0, run.base[0]))


def read_by(run, word):
    """Returns the run that has read all kinds of the word, too, which may be any tuple."""
    for kind in word:
        if not is_index(kind, len(run.base[1][0])):
            raise UnknownKind(kind)
    state = run.situation[0]
    for index, kind in enumerate(word):
        if not is_possible(run, state, kind):
            raise Refused(len(run.kinds) + index)
        state = run.base[1][state][kind][0]
    if len(run.kinds) + len(word) > MOST_KINDS_READ:
        raise LimitExceeded(MOST_KINDS_READ)
    return _at(run.base, run.endings, run.kinds + word, behind_from(run.base, run.situation, word))


def taken_back(run, many):
    """Returns the run that has not read the last so many kinds."""
    word = run.kinds[:len(run.kinds) - many]
    return _at(run.base, run.endings, word, behind(run.base, word))


def taken_over(run, writer, endings):
    """Returns the run of another writer, with these endings, that has read the same word.

    Raises Refused if nothing could come, and AlreadySent if its sure text does not begin with this one's.
    """
    situation = behind(writer, run.kinds)
    if situation is None or not endings[situation[0]]:
        raise Refused(len(run.kinds))
    other = _at(writer, endings, run.kinds, situation)
    if not other.sure.startswith(run.sure):
        raise AlreadySent(other.sure)
    return other


def is_possible(run, state, kind):
    """Tells whether something can still come behind the kind in this state."""
    entry = run.base[1][state][kind]
    return entry is not None and bool(run.endings[entry[0]])


def ended(run):
    """Returns the text of the word that was read, or None if it is not written."""
    return text_from(run.base, run.situation, ())


def _at(writer, endings, word, situation):
    return Run(writer, endings, word, situation, sure_behind(writer, endings, situation))
