"""Fates: whether what a buffer holds comes into the text in the end; and what texts are worth."""

from fewtests.runs import text_for


def fates(writer, word):
    """Returns for each beginning of the word, () first, the tuple of fates; None if the word is not written."""
    if text_for(writer, word) is None:
        return None
    entries = entries_along(writer, word)
    last = entries[-1][0] if entries else 0
    found = [fates_at_end(writer, last)]
    for _, fills in entries[::-1]:
        found.append(fates_before(fills, found[-1]))
    return tuple(found[::-1])


def worth(prices, text):
    """Returns the sum of the prices of the text's letters."""
    return sum([prices[ord(letter) - ord("a")] for letter in text])


def entries_along(writer, word):
    """Returns the list of the entries by which a word goes that is not refused."""
    state = 0
    entries = []
    for kind in word:
        entry = writer[1][state][kind]
        entries.append(entry)
        state = entry[0]
    return entries


def fates_at_end(writer, state):
    """Returns the fates behind a whole word that ends in this state, which has an end."""
    end = writer[2][state]
    return tuple([int(buffer in end) for buffer in range(len(writer[0]))])


def fates_before(fills, later):
    """Returns the fates ahead of an entry with these fills, behind which the fates are the later ones."""
    used = [part for recipe, fate in zip(fills, later) for part in recipe if fate == 1]
    return tuple([int(buffer in used) for buffer in range(len(fills))])
