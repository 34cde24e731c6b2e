"""Runs: what a writer makes of words."""


def behind(writer, word):
    """Returns the situation behind the word, or None if the word is refused."""
    return behind_from(writer, (0, writer[0]), word)


def text_for(writer, word):
    """Returns the text of the word, or None if it is not written."""
    return text_from(writer, (0, writer[0]), word)


def words_in_order(kinds, many):
    """Yields the first so many words, ordered by their length, then as tuples."""
    left = many
    words = [()]
    # Without kinds there is no word but (): then no words are left at some time.
    while left > 0 and words:
        for word in words[:left]:
            yield word
        left = left - len(words)
        words = [shorter + (kind,) for shorter in words for kind in range(kinds)]


def differ(first, second, word):
    """Tells whether the two writers differ at the word."""
    return text_for(first, word) != text_for(second, word)


def behind_from(writer, situation, word):
    """Returns the situation when the word has been read from this one, or None if it is refused."""
    state, texts = situation
    for kind in word:
        entry = writer[1][state][kind]
        if entry is None:
            return None
        state, fills = entry
        texts = _filled(fills, texts)
    return state, texts


def text_from(writer, situation, word):
    """Returns the text of the word when it is read from this situation, or None if it is not written."""
    found = behind_from(writer, situation, word)
    if found is None or writer[2][found[0]] is None:
        return None
    return _made(writer[2][found[0]], found[1])


def _filled(fills, texts):
    # All fills are made of the old texts, so that buffers can be exchanged.
    return tuple([_made(recipe, texts) for recipe in fills])


def _made(recipe, texts):
    return "".join([part if isinstance(part, str) else texts[part] for part in recipe])
