"""Desks: writers under names, presses that go on while these change, and records that stand or fall with them."""

from fewtests.checker import first_fault
from fewtests.checks import is_in, is_index
from fewtests.claims import decide
from fewtests.edits import is_edit, is_name, with_begin, with_end, with_entry
from fewtests.endings import endings_of
from fewtests.errors import (
    AlreadySent,
    Barred,
    EditRefused,
    InvalidClaim,
    InvalidCount,
    InvalidEdits,
    InvalidName,
    InvalidWriter,
    LimitExceeded,
    Refused,
    UnknownCheckpoint,
    UnknownEntry,
    UnknownName,
    UnknownPress,
    UnknownRecord,
)
from fewtests.parting import alike
from fewtests.sending import read_by, run_of, taken_over
from fewtests.validity import has_claim_form, with_writers, writers_in
from fewtests.writers import SMALL_KINDS, require_small

MOST_WRITERS = 6
MOST_RUNNING = 4
MOST_RECORDS = 8
MOST_CHECKPOINTS = 4
MOST_EDITS = 40


class Desk:
    """Writers of the same number of kinds under names, running presses, records and checkpoints.

    A change makes new dicts of the writers and the runs, so that the old ones can be taken again.
    """

    def __init__(self, kinds):
        if not is_in(kinds, 1, SMALL_KINDS):
            raise InvalidCount(kinds)
        self._kinds = kinds
        self._writers = {}
        self._runs = {}
        self._started = 0
        self._kept = []
        self._moments = []

    def __len__(self):
        return len(self._writers)

    def __contains__(self, value):
        return isinstance(value, str) and value in self._writers

    def __iter__(self):
        raise TypeError("a Desk is not gone through")

    def __getitem__(self, at):
        if not isinstance(at, str) or at not in self._writers:
            raise UnknownName(at)
        return self._writers[at]

    def __setitem__(self, at, worth):
        self._put(at, worth)

    def names(self):
        """Returns the ascending tuple of the names."""
        return tuple(sorted(list(self._writers)))

    def drop(self, name):
        """Drops the writer of this name."""
        self._require_name(name)
        self._go_on_with({other: self._writers[other] for other in self._writers if other != name})

    def set_entry(self, name, state, kind, entry):
        """Puts an entry in its place in the writer of this name."""
        self._require_name(name)
        self._replace(name, with_entry(self._writers[name], state, kind, entry))

    def set_end(self, name, state, recipe):
        """Puts an end in its place in the writer of this name."""
        self._require_name(name)
        self._replace(name, with_end(self._writers[name], state, recipe))

    def set_begin(self, name, buffer, text):
        """Puts a begin in its place in the writer of this name."""
        self._require_name(name)
        self._replace(name, with_begin(self._writers[name], buffer, text))

    def attempt(self, edits):
        """Does all the edits, in order, or none of them."""
        if not isinstance(edits, tuple) or len(edits) > MOST_EDITS:
            raise InvalidEdits(None)
        for index, edit in enumerate(edits):
            if not is_edit(edit):
                raise InvalidEdits(index)
        writers, runs = self._writers, self._runs
        for index, edit in enumerate(edits):
            reason = self._reason_against(edit)
            if reason is not None:
                self._writers, self._runs = writers, runs
                raise EditRefused(index, reason)

    def start(self, name):
        """Starts a running press by the writer of this name; returns its number."""
        if len(self._runs) == MOST_RUNNING:
            raise LimitExceeded(MOST_RUNNING)
        self._require_name(name)
        number = self._started
        self._runs = self._runs_with(number, name, run_of(self._writers[name]))
        self._started = number + 1
        return number

    def feed(self, number, kind):
        """Reads a kind by a running press; returns the text that is newly sent."""
        name, run = self._running(number)
        later = read_by(run, (kind,))
        self._runs = self._runs_with(number, name, later)
        return later.sure[len(run.sure):]

    def state_of(self, number):
        """Returns the name and the word of a running press, and all that it has sent."""
        name, run = self._running(number)
        return name, run.kinds, run.sure

    def stop(self, number):
        """Ends a running press."""
        self._running(number)
        self._runs = {other: self._runs[other] for other in self._runs if other != number}

    def decide(self, claim):
        """Returns the verdict on a named claim, and a paper."""
        verdict, _, paper = decide(self._claim_of(claim))
        return verdict, paper

    def record(self, claim):
        """Decides a named claim and keeps a record of it; returns its number."""
        if len(self._kept) == MOST_RECORDS:
            raise LimitExceeded(MOST_RECORDS)
        verdict, paper = self.decide(claim)
        self._kept.append((verdict, claim, paper))
        return len(self._kept) - 1

    def records(self):
        """Returns how many records there are."""
        return len(self._kept)

    def recorded(self, number):
        """Returns the verdict, the named claim and the paper of a record."""
        if not is_index(number, len(self._kept)):
            raise UnknownRecord(number)
        return self._kept[number]

    def standing(self, number):
        """Returns None if the record stands by the writers of now, else why not."""
        verdict, claim, paper = self.recorded(number)
        for name in writers_in(claim):
            if name not in self._writers:
                return "name", name
        return first_fault((verdict, with_writers(claim, self._writers), paper))

    def classes(self):
        """Returns the names in tuples of those whose writers are alike."""
        groups = []
        for name in self.names():
            same = [alike(self._writers[group[0]], self._writers[name]) for group in groups]
            if True in same:
                groups[same.index(True)].append(name)
            else:
                groups.append([name])
        return tuple([tuple(group) for group in groups])

    def checkpoint(self):
        """Keeps the names and the writers; returns the number of this checkpoint."""
        if len(self._moments) == MOST_CHECKPOINTS:
            raise LimitExceeded(MOST_CHECKPOINTS)
        self._moments.append(self._writers)
        return len(self._moments) - 1

    def restore(self, number):
        """Brings the names and the writers of a checkpoint back."""
        if not is_index(number, len(self._moments)):
            raise UnknownCheckpoint(number)
        self._go_on_with(self._moments[number])

    def _require_name(self, name):
        if not isinstance(name, str) or name not in self._writers:
            raise UnknownName(name)

    def _put(self, name, value):
        if not is_name(name):
            raise InvalidName(name)
        writer = require_small(value, self._kinds)
        if name not in self._writers and len(self._writers) == MOST_WRITERS:
            raise LimitExceeded(MOST_WRITERS)
        self._go_on_with({**self._writers, name: writer})

    def _replace(self, name, value):
        self._go_on_with({**self._writers, name: require_small(value, self._kinds)})

    def _go_on_with(self, writers):
        # Raises Barred before anything is changed.
        self._runs = _runs_by(self._runs, writers)
        self._writers = writers

    def _reason_against(self, edit):
        # Does the edit, or returns the name of the error that it raises.
        try:
            self._do(edit)
        except InvalidName:
            return "InvalidName"
        except InvalidWriter:
            return "InvalidWriter"
        except LimitExceeded:
            return "LimitExceeded"
        except UnknownName:
            return "UnknownName"
        except UnknownEntry:
            return "UnknownEntry"
        except Barred:
            return "Barred"
        return None

    def _do(self, edit):
        if edit[0] == "put":
            self._put(edit[1], edit[2])
        elif edit[0] == "drop":
            self.drop(edit[1])
        elif edit[0] == "entry":
            self.set_entry(edit[1], edit[2], edit[3], edit[4])
        elif edit[0] == "end":
            self.set_end(edit[1], edit[2], edit[3])
        else:
            self.set_begin(edit[1], edit[2], edit[3])

    def _running(self, number):
        if not is_index(number, self._started) or number not in self._runs:
            raise UnknownPress(number)
        return self._runs[number]

    def _runs_with(self, number, name, run):
        return {**self._runs, number: (name, run)}

    def _claim_of(self, claim):
        if not has_claim_form(claim):
            raise InvalidClaim()
        for name in writers_in(claim):
            self._require_name(name)
        return with_writers(claim, self._writers)


def _runs_by(runs, writers):
    # The runs as they go on by these writers; raises Barred for the first one that bars them.
    later = {}
    known = {}
    for number in runs:
        name, run = runs[number]
        if name not in writers:
            raise Barred(number)
        if writers[name] != run.base:
            # Presses of the same name share the work.
            if name not in known:
                known[name] = endings_of(writers[name])
            run = _taken_over_at(number, run, writers[name], known[name])
        later[number] = (name, run)
    return later


def _taken_over_at(number, run, writer, endings):
    try:
        later = taken_over(run, writer, endings)
    except (Refused, AlreadySent):
        raise Barred(number)
    return later
