"""Papers: whether what stands in a certificate has the form that is told for its claim and verdict."""

from fewtests.checks import ascends, is_in, is_index, is_tuple_of
from fewtests.heights import is_height_table
from fewtests.words import are_tests, is_word

MOST_KINDS_IN_A_PAPER = 3000
MOST_COUNT = 10 ** 60
MOST_HEIGHT = 5000


def is_paper(verdict, claim, paper):
    """Tells whether the paper has the form that is told for the valid claim and the verdict."""
    if verdict == "shown":
        return _is_shown(claim[0], claim, paper)
    return verdict == "broken" and _is_broken(claim[0], claim, paper)


def _is_shown(name, claim, paper):
    kinds = len(claim[1][1][0])
    if name == "meets":
        return is_word(paper, kinds, MOST_KINDS_IN_A_PAPER)
    if name == "written" and claim[3] is not None:
        return _is_count_table(claim[1], claim[2], paper)
    if name in ("written", "endless"):
        return _are_words(paper, 3, kinds)
    if name == "surplus" and claim[4] is None:
        return is_height_table(claim[1], claim[2], paper)
    if name == "surplus":
        return is_tuple_of(paper, 2) and _is_word(paper[0], kinds) and is_height_table(claim[1], claim[2], paper[1])
    if name == "first" and claim[3] == ():
        return paper == ()
    # What is left has tests; the writers of exchange are marked.
    return are_tests(paper, kinds + 1 if name == "exchange" else kinds)


def _is_broken(name, claim, paper):
    kinds = len(claim[1][1][0])
    if name in ("alike", "within"):
        return _is_word(paper, kinds)
    if name == "exchange":
        return _are_words(paper, 2, kinds)
    if name == "sure":
        return are_tests(paper, kinds)
    if name == "meets":
        return _is_form_table(claim[1], claim[2], paper)
    if name == "endless":
        return is_height_table(claim[1], claim[2], paper)
    if name == "first" and paper == ("same",):
        return True
    if not is_tuple_of(paper, 2):
        return False
    return _is_told(name, claim, paper[0], paper[1])


def _is_told(name, claim, sort, part):
    # A paper that tells its sort by a word ahead of it.
    kinds = len(claim[1][1][0])
    if name == "first":
        return sort == "earlier" and _is_word(part, kinds)
    if name in ("tests", "fine"):
        return sort in ("fewer", "more") and are_tests(part, kinds)
    if name == "written" and sort == "table":
        return _is_count_table(claim[1], claim[2], part)
    if name == "written":
        return sort == "endless" and claim[3] is not None and _are_words(part, 3, kinds)
    if sort == "more":
        return _is_word(part, kinds)
    if sort == "endless":
        return _are_words(part, 3, kinds)
    return sort == "less" and claim[4] is not None and is_height_table(claim[1], claim[2], part)


def _is_word(value, kinds):
    return is_word(value, kinds, MOST_KINDS_IN_A_PAPER)


def _are_words(value, many, kinds):
    return is_tuple_of(value, many) and all([_is_word(word, kinds) for word in value])


def _is_form_table(writer, form, value):
    if not isinstance(value, tuple) or not all([_is_form_row(writer, form, row) for row in value]):
        return False
    return ascends(value)


def _is_form_row(writer, form, value):
    if not is_tuple_of(value, 2) or not is_index(value[0], len(writer[1])):
        return False
    many = len(form[1])
    return is_tuple_of(value[1], len(writer[0])) and all([_is_effect(effect, many) for effect in value[1]])


def _is_effect(value, many):
    return is_tuple_of(value, many) and all([is_index(state, many) for state in value])


def _is_count_table(writer, text, value):
    if not isinstance(value, tuple) or not all([_is_count_row(writer, text, row) for row in value]):
        return False
    return ascends([row[:2] for row in value])


def _is_count_row(writer, text, value):
    if not is_tuple_of(value, 4) or not is_index(value[0], len(writer[1])):
        return False
    if not is_tuple_of(value[1], len(writer[0])) or not all([_is_content(content, text) for content in value[1]]):
        return False
    return is_in(value[2], 0, MOST_COUNT) and is_in(value[3], 0, MOST_HEIGHT)


def _is_content(value, text):
    if is_tuple_of(value, 1):
        return is_in(value[0], 0, 0)
    return is_tuple_of(value, 2) and is_in(value[0], 1, 1) and isinstance(value[1], str) and value[1] in text
