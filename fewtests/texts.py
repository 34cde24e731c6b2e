"""Texts: writers, words and forms written line by line, and read back."""

from fewtests.drafts import FormDraft, WordsDraft, WriterDraft
from fewtests.errors import ParseError


def format_writer(writer):
    """Returns the text of the writer."""
    begins, rules, ends = writer
    lines = [["kinds", len(rules[0])], ["begin"] + [text if text else "-" for text in begins]]
    for row, end in zip(rules, ends):
        lines.append(["state"])
        for kind, entry in enumerate(row):
            if entry is not None:
                lines.append(["kind", kind, "to", entry[0]])
                lines.extend([["fill", *recipe] for recipe in entry[1]])
        if end is not None:
            lines.append(["end", *end])
    return _written(lines)


def format_words(words):
    """Returns the text of the words."""
    return _written([["word", *word] for word in words])


def format_form(form):
    """Returns the text of the form."""
    groups, rows, good = form
    return _written([["groups", *groups]] + [["state", *row] for row in rows] + [["good", *good]])


def parse_writer(text):
    """Returns the writer of a text; raises ParseError for the first line with which there is none."""
    draft = WriterDraft()
    _read(text, draft)
    return draft.made()


def parse_words(text):
    """Returns the words of a text; raises ParseError as parse_writer does."""
    draft = WordsDraft()
    _read(text, draft)
    return draft.made()


def parse_form(text):
    """Returns the form of a text; raises ParseError as parse_writer does."""
    draft = FormDraft()
    _read(text, draft)
    return draft.made()


def _written(lines):
    return "".join([" ".join([str(part) for part in line]) + "\n" for line in lines])


def _read(text, draft):
    lines = text.split("\n")
    for index, line in enumerate(lines[:-1]):
        if not draft.takes(line.split(" ")):
            raise ParseError(index)
    if lines[-1] != "" or not draft.is_whole():
        raise ParseError(len(lines) - 1)
