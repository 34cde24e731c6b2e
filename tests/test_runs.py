import inspect
import itertools
import unittest

from fewtests.runs import behind, differ, text_for, words_in_order

ONE = (("",), (((0, ((0, "ab"),)),),), ((0, "a"),))
TWO = (("",), (((0, ((0, "ba"),)),),), (("a", 0),))

# Kind 0 goes on to a state without an end, kind 1 is refused at first, kind 2 joins and drops.
STEPS = (
    ("a", "b"),
    (
        ((1, ((0, "x"), (1,))), None, (0, ((1, "y", 0), ()))),
        ((1, ((1,), (0,))), (0, (("p", 0), (1, "q"))), None),
    ),
    ((0, "m", 1, "n"), None),
)


class BehindTest(unittest.TestCase):
    def test_the_example(self):
        self.assertEqual(behind(ONE, (0, 0)), (0, ("abab",)))

    def test_the_empty_word(self):
        self.assertEqual(behind(ONE, ()), (0, ("",)))
        self.assertEqual(behind(STEPS, ()), (0, ("a", "b")))

    def test_states_and_texts(self):
        self.assertEqual(behind(STEPS, (0,)), (1, ("ax", "b")))
        self.assertEqual(behind(STEPS, (0, 1)), (0, ("pax", "bq")))
        self.assertEqual(behind(STEPS, (0, 1, 0)), (1, ("paxx", "bq")))

    def test_refused_words_and_those_that_begin_with_them(self):
        for word in ((1,), (1, 0), (1, 1, 1), (0, 2), (0, 2, 0), (2, 2, 1), (0, 1, 1, 0, 0)):
            self.assertIsNone(behind(STEPS, word))

    def test_a_state_without_an_end_is_not_refused(self):
        self.assertEqual(behind(STEPS, (0, 0)), (1, ("b", "ax")))

    def test_buffers_are_exchanged_at_once(self):
        turn = (("a", "b", "c"), (((0, ((1,), (2,), (0,))), (0, ((1, "x"), (0, "y"), (2,)))),), ((0, 1, 2),))
        self.assertEqual(behind(turn, (0,)), (0, ("b", "c", "a")))
        self.assertEqual(behind(turn, (0, 0)), (0, ("c", "a", "b")))
        self.assertEqual(behind(turn, (1,)), (0, ("bx", "ay", "c")))
        self.assertEqual(behind(turn, (1, 1)), (0, ("ayx", "bxy", "c")))

    def test_buffers_are_joined_and_dropped(self):
        self.assertEqual(behind(STEPS, (2,)), (0, ("bya", "")))
        self.assertEqual(behind(STEPS, (2, 2)), (0, ("ybya", "")))
        three = (("a", "b", "c"), (((0, ((2, 0, "m", 1), ("d",), ())),),), ((0,),))
        self.assertEqual(behind(three, (0,)), (0, ("camb", "d", "")))
        self.assertEqual(behind(three, (0, 0)), (0, ("cambmd", "d", "")))

    def test_it_is_a_tuple_with_a_tuple(self):
        state, texts = behind(STEPS, (0,))
        self.assertEqual((state.__class__, texts.__class__), (int, tuple))
        self.assertIsInstance(behind(STEPS, (0,)), tuple)

    def test_a_word_of_1000_kinds(self):
        self.assertEqual(behind(ONE, (0,) * 1000), (0, ("ab" * 1000,)))
        self.assertEqual(behind(STEPS, (0,) * 1000), (1, ("b", "ax")))
        self.assertIsNone(behind(STEPS, (0,) * 999 + (2,)))

    def test_by_name(self):
        self.assertEqual(behind(word=(0,), writer=ONE), (0, ("ab",)))


class TextForTest(unittest.TestCase):
    def test_the_example(self):
        self.assertEqual(text_for(ONE, (0, 0)), "ababa")
        self.assertEqual(text_for(TWO, (0, 0)), "ababa")

    def test_the_empty_word(self):
        self.assertEqual(text_for(STEPS, ()), "ambn")
        self.assertEqual(text_for((("",), ((None,),), ((),)), ()), "")
        self.assertIsNone(text_for((("",), ((None,),), (None,)), ()))

    def test_refused_words(self):
        for word in ((1,), (1, 0), (0, 2), (0, 2, 1)):
            self.assertIsNone(text_for(STEPS, word))

    def test_a_state_without_an_end(self):
        self.assertIsNone(text_for(STEPS, (0,)))
        self.assertIsNone(text_for(STEPS, (0, 0)))

    def test_written_words(self):
        self.assertEqual(text_for(STEPS, (0, 1)), "paxmbqn")
        self.assertEqual(text_for(STEPS, (0, 0, 1)), "pbmaxqn")
        self.assertEqual(text_for(STEPS, (2,)), "byamn")

    def test_an_end_that_drops_buffers(self):
        two = (("a", "b"), (((0, ((0, "a"), (1, "b"))),),), ((1,),))
        self.assertEqual(text_for(two, (0, 0)), "bbb")
        self.assertEqual(text_for(two[:2] + (((),),), (0, 0)), "")
        self.assertEqual(text_for(two[:2] + ((("c",),),), (0, 0)), "c")
        self.assertEqual(text_for(two[:2] + (((1, 0),),), (0, 0)), "bbbaaa")

    def test_the_end_of_the_state_behind_the_word(self):
        two = (("",), (((1, ((),)),), ((0, ((),)),)), (("even",), ("odd",)))
        for many in range(6):
            self.assertEqual(text_for(two, (0,) * many), ("even", "odd")[many % 2])

    def test_a_word_of_1000_kinds(self):
        self.assertEqual(text_for(ONE, (0,) * 1000), "ab" * 1000 + "a")
        self.assertEqual(text_for(TWO, (0,) * 1000), "a" + "ba" * 1000)

    def test_the_bounds_together(self):
        wide = (("m" * 240,), (((0, (("a" * 120, 0, "z" * 120),)),),), (("y" * 240, 0),))
        self.assertEqual(text_for(wide, (0,) * 80), "y" * 240 + "a" * 9600 + "m" * 240 + "z" * 9600)

    def test_by_name(self):
        self.assertEqual(text_for(word=(0,), writer=TWO), "aba")


class WordsInOrderTest(unittest.TestCase):
    def expected(self, kinds, many):
        words = []
        length = 0
        while len(words) < many:
            words.extend(sorted(itertools.product(range(kinds), repeat=length)))
            length += 1
        return words[:many]

    def test_by_length_and_then_as_tuples(self):
        for kinds in range(1, 5):
            for many in (0, 1, 2, 3, 4, 5, 6, 7, 8, 20, 21, 22, 299, 300):
                with self.subTest(kinds=kinds, many=many):
                    self.assertEqual(list(words_in_order(kinds, many)), self.expected(kinds, many))

    def test_the_first_ones(self):
        self.assertEqual(list(words_in_order(1, 4)), [(), (0,), (0, 0), (0, 0, 0)])
        self.assertEqual(list(words_in_order(2, 6)), [(), (0,), (1,), (0, 0), (0, 1), (1, 0)])
        self.assertEqual(list(words_in_order(3, 5)), [(), (0,), (1,), (2,), (0, 0)])

    def test_300_words_of_one_kind(self):
        words = list(words_in_order(1, 300))
        self.assertEqual((len(words), words[-1]), (300, (0,) * 299))

    def test_it_is_a_generator(self):
        self.assertTrue(inspect.isgeneratorfunction(words_in_order))
        steps = words_in_order(2, 2)
        self.assertEqual((next(steps), next(steps), next(steps, "end")), ((), (0,), "end"))

    def test_somewhat_beyond_the_limits(self):
        self.assertEqual(list(words_in_order(0, 3)), [()])
        self.assertEqual(list(words_in_order(2, -1)), [])
        self.assertEqual(list(words_in_order(5, 400)), self.expected(5, 400))

    def test_each_call_begins_anew(self):
        self.assertEqual(list(words_in_order(2, 9)), list(words_in_order(2, 9)))

    def test_by_name(self):
        self.assertEqual(list(words_in_order(many=3, kinds=2)), [(), (0,), (1,)])


class DifferTest(unittest.TestCase):
    def test_both_write_the_same(self):
        for many in (0, 1, 2, 3, 50, 1000):
            self.assertIs(differ(ONE, TWO, (0,) * many), False)

    def test_both_write_and_not_the_same(self):
        three = (("",), (((0, (("a", 0, "b"),)),),), ((0, "a"),))
        self.assertEqual([differ(ONE, three, (0,) * many) for many in range(4)], [False, False, True, True])
        self.assertIs(differ(three, ONE, (0, 0)), True)

    def test_just_one_writes(self):
        ends = (("",), (((1, ((),)),), (None,)), ((), None))
        stays = (("",), (((0, ((),)),),), ((),))
        self.assertIs(differ(ends, stays, ()), False)
        for word in ((0,), (0, 0)):
            self.assertIs(differ(ends, stays, word), True)
            self.assertIs(differ(stays, ends, word), True)

    def test_none_writes(self):
        ends = (("",), (((1, ((),)),), (None,)), ((), None))
        refuses = (("",), ((None,),), ((),))
        for word in ((0,), (0, 0), (0, 0, 0)):
            self.assertIs(differ(ends, refuses, word), False)
            self.assertIs(differ(refuses, ends, word), False)

    def test_the_empty_text_is_written(self):
        empty = (("",), ((None,),), ((),))
        silent = (("",), ((None,),), (None,))
        self.assertIs(differ(empty, silent, ()), True)
        self.assertIs(differ(silent, empty, ()), True)
        self.assertIs(differ(empty, empty, ()), False)

    def test_unlike_numbers_of_states_and_buffers(self):
        parts = (("", "ab"), (((1, ((0,), ("ab", 1))),), ((0, ((0,), (1, "ab"))),)), ((0, "a"), (0, "a")))
        self.assertIs(differ(ONE, parts, ()), False)
        self.assertIs(differ(ONE, parts, (0,)), True)

    def test_by_name(self):
        self.assertIs(differ(word=(0, 0), second=TWO, first=ONE), False)


if __name__ == "__main__":
    unittest.main()
