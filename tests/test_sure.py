import copy
import os
import unittest

from fewtests.maps import ahead_of, end_row, map_of, patterns_of
from fewtests.runs import behind, behind_from, text_for, text_from
from fewtests.shadows import number_of, shadow
from fewtests.suites import is_closed, is_fine
from fewtests.sums import dimension
from fewtests.sure import common_beginning, fine_tests, sure_text
from reference import FORK, Maker, ONE, ascending, product, rank_of, words_up_to

HEAD = (("",), (((0, (("a", 0),)), (1, (("x", 0),))), (None, None)), (None, (0,)))
DEPTHS = {1: 16, 2: 7, 3: 5}


def texts_that_can_come(writer, word, words):
    return [text for text in (text_for(writer, word + more) for more in words) if text is not None]


class CommonBeginningTest(unittest.TestCase):
    def test_edges(self):
        self.assertEqual(common_beginning(("",)), "")
        self.assertEqual(common_beginning(("abc",)), "abc")
        self.assertEqual(common_beginning(("abc", "abc")), "abc")
        self.assertEqual(common_beginning(("abc", "bc")), "")
        self.assertEqual(common_beginning(("abc", "")), "")
        self.assertEqual(common_beginning(("abc", "ab")), "ab")
        self.assertEqual(common_beginning(("ab", "abc", "abcd")), "ab")
        self.assertEqual(common_beginning(("abcx", "abcy", "abz")), "ab")
        self.assertEqual(common_beginning(("b", "ab", "aab")), "")
        self.assertEqual(common_beginning(texts=("xa", "xb")), "x")

    def test_long_texts(self):
        self.assertEqual(common_beginning(("ab" * 10000, "ab" * 9999 + "aa")), "ab" * 9999 + "a")
        self.assertEqual(common_beginning(("a" * 20000,) * 3), "a" * 20000)

    def test_many_texts(self):
        maker = Maker(1)
        for _ in range(300):
            texts = tuple(maker.text(6) for _ in range(maker.random.randint(1, 5)))
            self.assertEqual(common_beginning(texts), os.path.commonprefix(texts))


class SureTextTest(unittest.TestCase):
    def test_example(self):
        self.assertEqual(sure_text(FORK, ()), "")
        self.assertEqual(sure_text(FORK, (1,)), "ab")
        self.assertEqual(sure_text(HEAD, ()), "x")
        self.assertEqual(sure_text(HEAD, (0, 0)), "xaa")

    def test_tests_that_are_closed_tell_too_much(self):
        tests = ((), (0,), (1,))
        self.assertTrue(is_closed(FORK, FORK, tests))
        self.assertFalse(is_fine(FORK, (), tests))
        texts = texts_that_can_come(FORK, (), tests)
        self.assertEqual(common_beginning(tuple(texts)), "a")
        self.assertEqual(text_for(FORK, (2,)), "ba")
        self.assertEqual(sure_text(FORK, ()), "")

    def test_nothing_can_come(self):
        self.assertIsNone(sure_text((("ab",), ((None,),), (None,)), ()))
        ring = (("",), (((1, ((0, "a"),)),), ((0, ((0, "b"),)),)), (None, None))
        self.assertIsNone(sure_text(ring, ()))
        self.assertIsNone(sure_text(ring, (0, 0, 0)))
        lost = (("a",), (((1, ((0,),)), (0, ((0, "b"),))), (None, None)), ((0,), None))
        self.assertIsNone(sure_text(lost, (0,)))
        self.assertIsNone(sure_text(lost, (1, 1, 0)))
        self.assertEqual(sure_text(lost, (1, 1)), "abb")

    def test_just_one_text_can_come(self):
        self.assertEqual(sure_text((("ab",), ((None,),), ((0, "c"),)), ()), "abc")
        self.assertEqual(sure_text((("ab",), ((None,),), ((),)), ()), "")
        still = (("ab",), (((0, ((0,),)),),), (("x", 0),))
        self.assertEqual(sure_text(still, (0,) * 60), "xab")

    def test_letters_behind(self):
        self.assertEqual(sure_text(ONE, ()), "a")
        self.assertEqual(sure_text(ONE, (0, 0)), "ababa")
        late = (("",), (((0, ((0, "a"),)), (1, ((0, "b"),))), (None, None)), (None, (0,)))
        self.assertEqual(sure_text(late, ()), "")
        self.assertEqual(sure_text(late, (0,) * 60), "a" * 60)
        self.assertEqual(sure_text(late, (0, 0, 1)), "aab")

    def test_a_text_that_begins_all_others(self):
        grow = (("",), (((0, ((0, "ab"),)),),), ((0,),))
        self.assertEqual(sure_text(grow, (0, 0)), "abab")

    def test_buffers_that_are_exchanged(self):
        swap = (("a", "b"), (((0, ((1,), (0,))), (0, ((0, "c"), (1, "c")))),), ((0, 1),))
        self.assertEqual(sure_text(swap, ()), "")
        turn = (("a", "a"), (((0, ((1,), (0,))), (0, ((0, "c"), (1, "c")))),), ((0, 1),))
        self.assertEqual(sure_text(turn, ()), "a")
        self.assertEqual(sure_text(turn, (1, 0, 1)), "acc")

    def test_buffers_that_do_not_come_into_the_text(self):
        aside = (("", ""), (((0, ((0, "a"), (1, "b"))), (0, ((0, "a"), ("c", 1)))),), ((0,),))
        self.assertEqual(sure_text(aside, (0, 1, 1)), "aaa")
        dropped = (("", ""), (((0, ((0, "a"), ())), (0, ((0, "a"), (1, "c")))),), ((0, "b", 1),))
        self.assertEqual(sure_text(dropped, (0, 1)), "aa")

    def test_sixty_kinds_of_24_letters(self):
        piece = "abcdefghijklmnopqrstuvwx"
        ahead = (("",), (((0, ((piece, 0),)), (1, (("z", 0),))), (None, None)), (None, (0,)))
        self.assertEqual(sure_text(ahead, (0,) * 60), "z" + piece * 60)
        both = (
            (piece, piece),
            (((0, ((0, piece[:12]), (piece[12:], 1))), (0, ((0, piece[12:]), (piece[:12], 1)))),),
            ((0, 1),),
        )
        word = (0, 1, 1) * 20
        self.assertEqual(sure_text(both, word), behind(both, word)[1][0])

    def test_against_all_short_words_that_go_on(self):
        maker = Maker(31)
        none = equal = 0
        for _ in range(250):
            writer = maker.writer(refused=maker.random.choice((0.1, 0.4)), most=maker.random.choice((1, 2, 4)))
            words = words_up_to(len(writer[1][0]), DEPTHS[len(writer[1][0])])
            for word in maker.random.sample(words[:20], 3):
                if behind(writer, word) is None:
                    continue
                found = sure_text(writer, word)
                texts = texts_that_can_come(writer, word, words)
                if found is None:
                    self.assertEqual(texts, [])
                    none += 1
                elif texts:
                    # A word that is longer than these may make it shorter, but it does not become longer.
                    self.assertTrue(os.path.commonprefix(texts).startswith(found), (writer, word))
                    equal += os.path.commonprefix(texts) == found
                tests = fine_tests(writer, word)
                told = texts_that_can_come(writer, word, tests)
                self.assertEqual(found, os.path.commonprefix(told) if told else None)
        self.assertGreater(none, 20)
        self.assertGreater(equal, 300)


class FineTestsTest(unittest.TestCase):
    def check(self, writer, word):
        found = fine_tests(writer, word)
        self.assertIsInstance(found, tuple)
        self.assertEqual(found[0], ())
        self.assertEqual(found, ascending(found))
        for test in found[1:]:
            self.assertIn(test[:-1], found)
        for test in found:
            self.assertIsNotNone(behind(writer, word + test))
        self.assertIs(is_fine(writer, word, found), True)
        rows = {}
        for test in found:
            state, texts = behind(writer, word + test)
            rows.setdefault(state, []).append(shadow((state, texts)))
        # None is too many: all are independent. So no fewer can have all these shadows as sums.
        self.assertEqual(sum(rank_of(some) for some in rows.values()), len(found))
        return found

    def test_examples(self):
        self.assertEqual(self.check(FORK, ()), ((), (0,), (2,)))
        self.assertEqual(self.check(FORK, (1,)), ((),))
        self.assertEqual(len(self.check(HEAD, ())), 4)
        self.assertEqual(self.check(ONE, (0,) * 9), ((), (0,)))

    def test_as_many_as_the_dimensions(self):
        maker = Maker(33)
        for _ in range(80):
            writer = maker.writer()
            kinds = len(writer[1][0])
            words = words_up_to(kinds, {1: 25, 2: 5, 3: 4}[kinds])
            word = maker.random.choice([word for word in words[:12] if behind(writer, word) is not None])
            found = self.check(writer, word)
            rows = {}
            for more in words:
                situation = behind(writer, word + more)
                if situation is not None:
                    rows.setdefault(situation[0], {})[shadow(situation)] = True
            many = sum(dimension(tuple(some)[:60]) for some in rows.values())
            self.assertGreaterEqual(len(found), many)
            if kinds == 1:
                self.assertEqual(len(found), many)

    def test_long_words_before_them(self):
        piece = "abcdefghijklmnopqrstuvwx"
        ahead = (("",), (((0, ((piece, 0),)), (1, (("z", 0),))), (None, None)), (None, (0,)))
        self.assertEqual(len(self.check(ahead, (0,) * 60)), 4)

    def test_writers_at_their_bounds(self):
        maker = Maker(34)
        for _ in range(2):
            writer = maker.writer(4, 3, 2, 24, "ab", 0)
            word = (0, 1, 2) * 20
            found = self.check(writer, word)
            texts = texts_that_can_come(writer, word, found)
            self.assertEqual(sure_text(writer, word), os.path.commonprefix(texts))


class AllTest(unittest.TestCase):
    def test_arguments(self):
        arguments = (FORK, (1,))
        kept = copy.deepcopy(arguments)
        self.assertEqual(sure_text(writer=FORK, word=(1,)), "ab")
        self.assertEqual(fine_tests(writer=FORK, word=(1,)), ((),))
        self.assertEqual([sure_text(*arguments), sure_text(*arguments)], ["ab", "ab"])
        self.assertEqual(arguments, kept)


class MapsTest(unittest.TestCase):
    def test_shadows_move_by_maps(self):
        maker = Maker(35)
        for _ in range(60):
            writer = maker.writer(buffers=maker.random.randint(1, 3), refused=0)
            buffers = len(writer[0])
            self.assertEqual(len(patterns_of(buffers)), len(shadow((0, writer[0]))))
            for word in words_up_to(len(writer[1][0]), 2):
                situation = behind(writer, word)
                state = situation[0]
                text = text_from(writer, situation, ())
                self.assertEqual(product(end_row(writer[2][state], buffers), shadow(situation)), number_of(text))
                for kind, entry in enumerate(writer[1][state]):
                    later = behind_from(writer, situation, (kind,))
                    rows = map_of(entry[1])
                    self.assertEqual(tuple(product(row, shadow(situation)) for row in rows), shadow(later))
                    end = end_row(writer[2][later[0]], buffers)
                    self.assertEqual(product(ahead_of(end, rows), shadow(situation)), product(end, shadow(later)))


if __name__ == "__main__":
    unittest.main()
