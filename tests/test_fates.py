import copy
import unittest

from fewtests.fates import fates, worth
from fewtests.runs import behind, text_for, text_from
from reference import Maker, ONE, words_up_to

LATE = (("", ""), (((0, ((0, "a"), (1, "b"))), (0, ((), (0, 1)))),), ((1,),))


class FatesTest(unittest.TestCase):
    def test_example(self):
        self.assertEqual(fates(LATE, (0,)), ((0, 1), (0, 1)))
        self.assertEqual(fates(LATE, (0, 1)), ((1, 1), (1, 1), (0, 1)))

    def test_the_empty_word(self):
        self.assertEqual(fates(LATE, ()), ((0, 1),))
        self.assertEqual(fates(ONE, ()), ((1,),))
        self.assertEqual(fates((("a",), ((None,),), (("b",),)), ()), ((0,),))
        self.assertEqual(fates((("a", "b", "c"), ((None,),), ((2, "x", 0),)), ()), ((1, 0, 1),))

    def test_words_that_are_not_written(self):
        short = (("",), (((1, ((0, "a"),)), None), (None, None)), (None, (0,)))
        self.assertIsNone(fates(short, ()))
        self.assertIsNone(fates(short, (1,)))
        self.assertIsNone(fates(short, (0, 0)))
        self.assertIsNone(fates(short, (1, 0, 0)))
        self.assertEqual(fates(short, (0,)), ((1,), (1,)))

    def test_buffers_with_the_empty_text(self):
        empty = (("", ""), (((0, ((0,), (1,))), (0, ((1,), ())), (0, ((), (0,)))),), ((0,),))
        self.assertEqual(fates(empty, ()), ((1, 0),))
        self.assertEqual(fates(empty, (1,)), ((0, 1), (1, 0)))
        self.assertEqual(fates(empty, (2,)), ((0, 0), (1, 0)))
        self.assertEqual(fates(empty, (2, 1)), ((1, 0), (0, 1), (1, 0)))

    def test_buffers_that_are_joined_exchanged_and_dropped(self):
        three = (
            ("a", "b", "c"),
            (((0, ((1,), (0,), (2,))), (0, ((0, "x", 2), (1,), ())), (0, ((), (1,), (2,)))),),
            ((0,),),
        )
        self.assertEqual(fates(three, (0,)), ((0, 1, 0), (1, 0, 0)))
        self.assertEqual(fates(three, (1,)), ((1, 0, 1), (1, 0, 0)))
        self.assertEqual(fates(three, (2,)), ((0, 0, 0), (1, 0, 0)))
        self.assertEqual(fates(three, (0, 1)), ((0, 1, 1), (1, 0, 1), (1, 0, 0)))
        self.assertEqual(fates(three, (1, 2)), ((0, 0, 0), (0, 0, 0), (1, 0, 0)))

    def test_what_a_buffer_holds_comes_into_the_text(self):
        maker = Maker(41)
        for _ in range(60):
            writer = maker.writer(buffers=maker.random.randint(1, 3))
            for word in words_up_to(len(writer[1][0]), 3):
                found = fates(writer, word)
                if text_for(writer, word) is None:
                    self.assertIsNone(found)
                    continue
                self.assertEqual(len(found), len(word) + 1)
                for many, told in enumerate(found):
                    state, texts = behind(writer, word[:many])
                    shown = []
                    for buffer in range(len(texts)):
                        other = texts[:buffer] + ("zqz",) + texts[buffer + 1:]
                        shown.append(int("zqz" in text_from(writer, (state, other), word[many:])))
                    self.assertEqual(told, tuple(shown))

    def test_long_words(self):
        self.assertEqual(fates(ONE, (0,) * 1000), ((1,),) * 1001)

    def test_arguments(self):
        arguments = (LATE, (0, 1))
        kept = copy.deepcopy(arguments)
        self.assertEqual(fates(writer=LATE, word=(0, 1)), fates(*arguments))
        self.assertEqual(arguments, kept)


class WorthTest(unittest.TestCase):
    def test_edges(self):
        ones = (1,) * 26
        self.assertEqual(worth(ones, ""), 0)
        self.assertEqual(worth(ones, "abcz"), 4)
        self.assertEqual(worth((0,) * 26, "abcz"), 0)
        prices = tuple(range(-9, 10)) + (0,) * 7
        self.assertEqual(worth(prices, "a"), -9)
        self.assertEqual(worth(prices, "s"), 9)
        self.assertEqual(worth(prices, "z"), 0)
        self.assertEqual(worth(prices, "aab"), -26)
        self.assertEqual(worth(prices=prices, text="as"), 0)
        self.assertEqual(worth((-9,) * 26, "q" * 20000), -180000)

    def test_each_letter_has_its_price(self):
        for place, letter in enumerate("abcdefghijklmnopqrstuvwxyz"):
            prices = tuple(int(at == place) for at in range(26))
            self.assertEqual([worth(prices, other) for other in "abcdefghijklmnopqrstuvwxyz"], list(prices))
            self.assertEqual(worth(prices, letter * 3 + "a"), 3 + int(letter == "a"))


if __name__ == "__main__":
    unittest.main()
