"""The errors of the package. Each one keeps what it was made with under the same name."""


class InvalidWriter(ValueError):
    """The value is no writer; part tells which part of it is the first wrong one."""

    def __init__(self, part):
        ValueError.__init__(self, f"no valid writer, first wrong part: {part!r}")
        self.part = part


class InvalidForm(ValueError):
    """The value is no form; part tells which part of it is the first wrong one."""

    def __init__(self, part):
        ValueError.__init__(self, f"no valid form, first wrong part: {part!r}")
        self.part = part


class InvalidClaim(ValueError):
    """The value is no valid claim."""

    def __init__(self):
        ValueError.__init__(self, "no valid claim")


class InvalidEdits(ValueError):
    """The value is no tuple of edits; index is that of the first wrong one, or None."""

    def __init__(self, index):
        ValueError.__init__(self, f"no valid edits, first wrong one: {index!r}")
        self.index = index


class InvalidName(ValueError):
    """The value cannot be a name."""

    def __init__(self, value):
        ValueError.__init__(self, "no valid name")
        self.value = value


class InvalidCount(ValueError):
    """The value cannot be a number of kinds."""

    def __init__(self, value):
        ValueError.__init__(self, "no valid number of kinds")
        self.value = value


class KindsDiffer(ValueError):
    """Two writers have different numbers of kinds."""

    def __init__(self):
        ValueError.__init__(self, "the numbers of kinds differ")


class Differs(ValueError):
    """Two writers differ; word is the first word at which they do."""

    def __init__(self, word):
        ValueError.__init__(self, f"the writers differ at {word!r}")
        self.word = word


class ParseError(ValueError):
    """The text cannot be read; line is the index of the first line that does not fit."""

    def __init__(self, line):
        ValueError.__init__(self, f"line {line!r} does not fit")
        self.line = line


class UnknownKind(LookupError):
    """The value is no kind."""

    def __init__(self, value):
        LookupError.__init__(self, "there is no such kind")
        self.value = value


class UnknownEntry(LookupError):
    """There is no such place in a writer; index is the first of the values that there is not."""

    def __init__(self, index):
        LookupError.__init__(self, "there is no such entry")
        self.index = index


class UnknownName(LookupError):
    """There is no writer of this name."""

    def __init__(self, value):
        LookupError.__init__(self, "there is no such name")
        self.value = value


class UnknownPress(LookupError):
    """There is no running press of this number."""

    def __init__(self, number):
        LookupError.__init__(self, "there is no such running press")
        self.number = number


class UnknownRecord(LookupError):
    """There is no record of this number."""

    def __init__(self, number):
        LookupError.__init__(self, "there is no such record")
        self.number = number


class UnknownCheckpoint(LookupError):
    """There is no checkpoint of this number."""

    def __init__(self, number):
        LookupError.__init__(self, "there is no such checkpoint")
        self.number = number


class Refused(RuntimeError):
    """Nothing could come any more; index is the number of kinds that were read before."""

    def __init__(self, index):
        RuntimeError.__init__(self, f"nothing could come after {index!r} kinds")
        self.index = index


class EditRefused(RuntimeError):
    """An edit raised an error; index is that of the edit, reason the name of the error's class."""

    def __init__(self, index, reason):
        RuntimeError.__init__(self, f"edit {index!r} was refused: {reason!r}")
        self.index = index
        self.reason = reason


class Barred(RuntimeError):
    """A running press bars the change; number is that of the first one."""

    def __init__(self, number):
        RuntimeError.__init__(self, f"barred by press {number!r}")
        self.number = number


class NoOutcome(RuntimeError):
    """The writer writes no word."""

    def __init__(self):
        RuntimeError.__init__(self, "no word is written")


class NotWritten(RuntimeError):
    """The word that was read is not written."""

    def __init__(self):
        RuntimeError.__init__(self, "the word is not written")


class AlreadySent(RuntimeError):
    """More was sent than would be sure; text is what would be sure."""

    def __init__(self, text):
        RuntimeError.__init__(self, "letters that were sent cannot be taken back")
        self.text = text


class TooFar(RuntimeError):
    """So many kinds cannot be taken back."""

    def __init__(self, many):
        RuntimeError.__init__(self, "so many kinds cannot be taken back")
        self.many = many


class LimitExceeded(OverflowError):
    """Something would be larger than it may be; limit is how large it may be."""

    def __init__(self, limit):
        OverflowError.__init__(self, f"more than {limit!r}")
        self.limit = limit
