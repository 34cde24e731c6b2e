"""Shadows: texts as numbers by 29, and what situations look like in such numbers."""

from fewtests.runs import behind

BASE = 29
ALPHABET = "abcdefghijklmnopqrstuvwxyz"


def number_of(text):
    """Returns the number of the text: the letter at index i counts 29 ** i times."""
    total = 0
    for letter in text[::-1]:
        total = total * BASE + ord(letter) - ord("a") + 1
    return total


def size_of(text):
    """Returns 29 ** n for a text of n letters."""
    return power_of(BASE, len(text))


def text_of(number):
    """Returns the text with this number, or None if there is none."""
    if number < 0:
        return None
    letters = []
    left = number
    while left > 0:
        left, counts = divmod(left, BASE)
        if not 1 <= counts <= len(ALPHABET):
            return None
        letters.append(ALPHABET[counts - 1])
    return "".join(letters)


def shadow(situation):
    """Returns the shadow of the situation."""
    return shadow_of(measures_of(situation[1]))


def pair_shadow(first, second, word):
    """Returns the shadow of the word for the two writers, or None if both refuse it."""
    one = behind(first, word)
    two = behind(second, word)
    if one is None and two is None:
        return None
    if one is None or two is None:
        return (1,)
    return shadow(one) + shadow(two)[1:]


def power_of(base, many):
    """Returns base ** many, for many from 0 on."""
    power = 1
    square = base
    left = many
    while left > 0:
        if left & 1:
            power = power * square
        square = square * square
        left = left >> 1
    return power


def measures_of(texts):
    """Returns for each text its measure, the pair of its size and its number."""
    return tuple([(size_of(text), number_of(text)) for text in texts])


def measure_made(recipe, measures):
    """Returns the measure of what the recipe makes of buffers with these measures."""
    size = 1
    number = 0
    for part in recipe:
        if isinstance(part, str):
            part_size, part_number = size_of(part), number_of(part)
        else:
            part_size, part_number = measures[part]
        # What stands behind a text of some size counts so many times more.
        number = number + size * part_number
        size = size * part_size
    return size, number


def shadow_of(measures):
    """Returns the shadow of a situation whose buffers have these measures."""
    # With the products stands whether their pattern has its 2 already.
    products = [(False, 1)]
    for size, number in measures:
        longer = []
        for has_two, value in products:
            longer.append((has_two, value))
            longer.append((has_two, value * size))
            if not has_two:
                longer.append((True, value * number))
        products = longer
    return tuple([value for _, value in products])
