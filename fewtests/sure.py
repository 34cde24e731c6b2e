"""Sure texts: what is sure of the text behind a word, whatever may still come."""

from fewtests.endings import endings_of
from fewtests.finest import finest_tests
from fewtests.runs import behind, text_from
from fewtests.walks import situation_behind, start_of


def common_beginning(texts):
    """Returns the longest text with which all the texts begin."""
    # What the first and the last one in order have in common, all between them have, too.
    least, greatest = min(texts), max(texts)
    many = 0
    while many < len(least) and least[many] == greatest[many]:
        many = many + 1
    return least[:many]


def sure_text(writer, word):
    """Returns the sure text of a word that is not refused, or None if nothing can come."""
    return sure_behind(writer, endings_of(writer), behind(writer, word))


def sure_behind(writer, endings, situation):
    """Returns the sure text of a situation, the endings being those of the writer, or None."""
    texts = [text_from(writer, situation, word) for word in endings[situation[0]]]
    if not texts:
        return None
    return common_beginning(texts)


def fine_tests(writer, word):
    """Returns the fewest fine tests behind a word that is not refused, each but () one of them and a kind."""
    return finest_tests(writer, situation_behind(writer, start_of(writer), word))
