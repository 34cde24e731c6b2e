import copy
import itertools
import unittest

from fewtests.runs import behind
from fewtests.shadows import number_of, pair_shadow, shadow, size_of, text_of
from reference import Maker, ONE, TWO, words_up_to

LETTERS = "abcdefghijklmnopqrstuvwxyz"


def slow_number(text):
    return sum((LETTERS.index(letter) + 1) * 29 ** index for index, letter in enumerate(text))


def slow_shadow(texts):
    found = []
    for pattern in itertools.product(range(3), repeat=len(texts)):
        if pattern.count(2) <= 1:
            value = 1
            for sign, text in zip(pattern, texts):
                value *= (1, 29 ** len(text), slow_number(text))[sign]
            found.append(value)
    return tuple(found)


class NumbersTest(unittest.TestCase):
    def test_each_letter_and_no_letter(self):
        self.assertEqual(number_of(""), 0)
        self.assertEqual(size_of(""), 1)
        for place, letter in enumerate(LETTERS):
            self.assertEqual(number_of(letter), place + 1)
            self.assertEqual(size_of(letter), 29)

    def test_places_count_by_29(self):
        self.assertEqual(number_of("ab"), 1 + 2 * 29)
        self.assertEqual(number_of("ba"), 2 + 29)
        self.assertEqual(number_of(text="aaz"), 1 + 29 + 26 * 841)
        self.assertEqual(size_of(text="aaz"), 29 ** 3)

    def test_long_texts(self):
        for text in ("a" * 60, "z" * 60, (LETTERS * 3)[5:65], LETTERS * 100):
            self.assertEqual(number_of(text), slow_number(text))
            self.assertEqual(size_of(text), 29 ** len(text))

    def test_two_texts_put_together(self):
        for left in ("", "a", "zq", "abc" * 9):
            for right in ("", "z", "ba", "xyz" * 8):
                self.assertEqual(number_of(left + right), number_of(left) + size_of(left) * number_of(right))
                self.assertEqual(size_of(left + right), size_of(left) * size_of(right))


class TextOfTest(unittest.TestCase):
    def test_of_the_number_of_each_short_text(self):
        for many in range(3):
            for letters in itertools.product(LETTERS, repeat=many):
                self.assertEqual(text_of(number_of("".join(letters))), "".join(letters))
        for letters in itertools.product("aboz", repeat=4):
            self.assertEqual(text_of(number_of("".join(letters))), "".join(letters))

    def test_numbers_at_the_edges(self):
        self.assertEqual(text_of(0), "")
        self.assertEqual(text_of(26), "z")
        for number in (27, 28, 29, 58, 29 * 27, 29 * 27 + 1, 29 + 27, 29 + 28, 29 * 29, 29 * 29 + 1):
            self.assertIsNone(text_of(number), number)
        self.assertEqual(text_of(number=30), "aa")

    def test_every_number_of_up_to_three_letters(self):
        known = {
            slow_number("".join(letters)): "".join(letters)
            for many in range(4)
            for letters in itertools.product(LETTERS, repeat=many)
        }
        for number in range(29 ** 3):
            self.assertEqual(text_of(number), known.get(number))

    def test_negative_numbers(self):
        for number in (-1, -2, -26, -27, -29, -30, -841, -10 ** 79):
            self.assertIsNone(text_of(number))

    def test_numbers_of_80_digits(self):
        text = (LETTERS * 3)[:55]
        self.assertEqual(len(str(number_of(text))), 80)
        self.assertEqual(text_of(number_of(text)), text)
        self.assertIsNone(text_of(number_of(text) - 1))
        self.assertIsNone(text_of(29 ** 54))
        for number in (10 ** 79, 10 ** 80 - 1, 123456789 * 10 ** 71 + 5):
            found = text_of(number)
            self.assertTrue(found is None or slow_number(found) == number)


class ShadowTest(unittest.TestCase):
    def test_example(self):
        self.assertEqual(shadow((0, ("abab",))), (1, 707281, 49678))
        self.assertEqual(pair_shadow(ONE, TWO, (0,)), (1, 841, 59, 841, 31))

    def test_as_many_integers_as_patterns(self):
        self.assertEqual(len(shadow((0, ("",)))), 3)
        self.assertEqual(len(shadow((0, ("", "a")))), 8)
        self.assertEqual(len(shadow((0, ("", "a", "b")))), 20)

    def test_order_of_the_patterns(self):
        self.assertEqual(shadow((0, ("b", "cc"))), (1, 841, 90, 29, 29 * 841, 29 * 90, 2, 2 * 841))
        for texts in itertools.product(("", "a", "zb", "cab"), repeat=3):
            self.assertEqual(shadow((1, texts)), slow_shadow(texts))
            self.assertEqual(shadow((1, texts[:2])), slow_shadow(texts[:2]))
            self.assertEqual(shadow((1, texts[:1])), slow_shadow(texts[:1]))

    def test_not_dependent_on_the_state(self):
        for state in range(12):
            self.assertEqual(shadow(situation=(state, ("ab", "c"))), shadow((0, ("ab", "c"))))

    def test_pairs(self):
        half = (("b",), (((0, ((0, "a"),)), None),), ((0,),))
        other = (("c", ""), ((None, (0, ((0,), (1, "z")))),), (None,))
        self.assertEqual(pair_shadow(half, other, ()), slow_shadow(("b",)) + slow_shadow(("c", ""))[1:])
        self.assertEqual(pair_shadow(half, other, (0,)), (1,))
        self.assertEqual(pair_shadow(half, other, (1,)), (1,))
        self.assertIsNone(pair_shadow(half, other, (0, 1)))
        self.assertEqual(pair_shadow(half, other, (0, 0, 0)), (1,))
        self.assertIsNone(pair_shadow(first=half, second=other, word=(1, 0, 1)))
        self.assertEqual(len(pair_shadow(other, other, ())), 15)
        self.assertEqual(len(pair_shadow(half, other, ())), 10)

    def test_pairs_of_made_writers(self):
        maker = Maker(3)
        for _ in range(40):
            first, second = maker.pair()
            kept = copy.deepcopy((first, second))
            for word in words_up_to(len(first[1][0]), 3):
                one, two = behind(first, word), behind(second, word)
                found = pair_shadow(first, second, word)
                if one is None or two is None:
                    self.assertEqual(found, None if one is two else (1,))
                else:
                    self.assertEqual(found, slow_shadow(one[1]) + slow_shadow(two[1])[1:])
            self.assertEqual((first, second), kept)

    def test_long_words(self):
        word = (0,) * 1000
        first, second = slow_number("ab" * 1000), slow_number("ba" * 1000)
        self.assertEqual(pair_shadow(ONE, TWO, word), (1, 29 ** 2000, first, 29 ** 2000, second))


if __name__ == "__main__":
    unittest.main()
