import copy
import unittest

from fewtests.errors import LimitExceeded
from fewtests.exchange import emptied, exchangeable, marked, needless
from fewtests.parting import alike
from fewtests.runs import behind, text_for
from fewtests.writers import require_writer
from cases import word_of
from judge import with_mark
from reference import Maker, ONE, exchanged, words_up_to

PAIR = (("",), (((0, ((0, "a"),)), (0, (("a", 0),))),), ((0,),))
# Kind 0 leads on and is refused in state 1; kind 1 leads back.
TURN = (("", "b"), (((1, ((0, "a"), (1,))), None), (None, (0, (("b", 1), (0,))))), ((0, 1), (1, "c", 0)))


def long_writer(many):
    """Its kind puts so many letters ahead and as many behind."""
    return (("",), (((0, (("a" * many, 0, "b" * many),)),),), ((0,),))


class MarkedTest(unittest.TestCase):
    def test_example(self):
        self.assertEqual(marked(PAIR, (0, 1))[1][0][2], (0, (("a", 0, "a"),)))
        self.assertIs(exchangeable(PAIR, (0, 1), (1, 1)), True)
        self.assertIs(exchangeable(PAIR, (0,), ()), False)
        self.assertEqual(needless(PAIR), ())

    def test_the_empty_word(self):
        self.assertEqual(marked(PAIR, ())[1][0], PAIR[1][0] + ((0, ((0,),)),))
        found = marked(TURN, ())
        self.assertEqual(found[1][0][2], (0, ((0,), (1,))))
        self.assertEqual(found[1][1][2], (1, ((0,), (1,))))
        self.assertEqual((found[0], found[2]), (TURN[0], TURN[2]))

    def test_words_that_are_refused_in_some_states(self):
        found = marked(TURN, (0, 1))
        self.assertEqual(found[1][0][2], (0, (("b", 1), (0, "a"))))
        self.assertIsNone(found[1][1][2])
        found = marked(TURN, (1, 0))
        self.assertIsNone(found[1][0][2])
        self.assertEqual(found[1][1][2], (1, (("b", 1, "a"), (0,))))
        self.assertEqual([row[2] for row in marked(TURN, (0, 0))[1]], [None, None])

    def test_entries_at_the_limit(self):
        found = marked(long_writer(30), (0, 0, 0, 0))
        self.assertEqual(found[1][0][1], (0, (("a" * 120, 0, "b" * 120),)))
        require_writer(found)
        with self.assertRaises(LimitExceeded) as caught:
            marked(long_writer(31), (0, 0, 0, 0))
        self.assertEqual(caught.exception.limit, 240)
        one_more = (("",), (((0, (("a" * 120, 0, "b" * 120),)), (0, ((0, "c"),))),), ((0,),))
        self.assertEqual(marked(one_more, (0,))[1][0][2], one_more[1][0][0])
        self.assertEqual(marked(one_more, (1, 1))[1][0][2], (0, ((0, "cc"),)))
        one_less = (("",), (((0, (("a" * 120, 0, "b" * 119),)), (0, ((0, "c"),))),), ((0,),))
        self.assertEqual(marked(one_less, (0, 1))[1][0][2], (0, (("a" * 120, 0, "b" * 119 + "c"),)))
        with self.assertRaises(LimitExceeded):
            marked(one_less, (0, 1, 1))
        with self.assertRaises(LimitExceeded):
            marked(one_more, (0, 1))
        # What is dropped again on the way does not count.
        drop = (("", ""), (((0, (("a" * 240, 0), (1,))), (0, ((1,), (0,))), (0, ((), (1,)))),), ((0,),))
        self.assertEqual(marked(drop, (0, 2, 0))[1][0][3], (0, (("a" * 240,), (1,))))
        with self.assertRaises(LimitExceeded):
            marked(drop, (0, 1, 0))
        # One entry that is too long is enough, also in a state that no word leads to.
        later = (("",), (((0, ((0,),)),), ((1, (("a" * 200, 0),)),)), ((0,), (0,)))
        with self.assertRaises(LimitExceeded):
            marked(later, (0, 0))

    def test_against_the_word_put_in(self):
        maker = Maker(71)
        for _ in range(80):
            writer = maker.writer()
            kinds = len(writer[1][0])
            word = word_of(maker, kinds, 4)
            found = require_writer(marked(writer, word))
            self.assertEqual(found, with_mark(writer, word))
            self.assertEqual((found[0], found[2]), (writer[0], writer[2]))
            self.assertEqual(tuple(row[:kinds] for row in found[1]), writer[1])
            for other in words_up_to(kinds + 1, 3):
                spread = sum((word if kind == kinds else (kind,) for kind in other), ())
                self.assertEqual(behind(found, other), behind(writer, spread))
                self.assertEqual(text_for(found, other), text_for(writer, spread))

    def test_writers_that_are_not_small(self):
        maker = Maker(72)
        for _ in range(10):
            writer = maker.writer(12, 3, 3, 40, "abz", 0.1)
            word = word_of(maker, 3, 4)
            self.assertEqual(marked(writer, word), with_mark(writer, word))


class ExchangeableTest(unittest.TestCase):
    def test_words_of_this_and_that(self):
        self.assertIs(exchangeable(PAIR, (), ()), True)
        self.assertIs(exchangeable(PAIR, (0, 1), (1, 0)), True)
        self.assertIs(exchangeable(PAIR, (0, 1, 0), (1, 1, 0)), True)
        self.assertIs(exchangeable(PAIR, (0, 1), (0, 1, 1)), False)
        sides = (("",), (((0, ((0, "a"),)), (0, (("b", 0),))),), ((0,),))
        self.assertIs(exchangeable(sides, (0, 1), (1, 0)), True)
        self.assertIs(exchangeable(sides, (0,), (1,)), False)
        ends = (("",), (((0, ((0, "a"),)), (0, ((0, "b"),))),), ((0,),))
        self.assertIs(exchangeable(ends, (0, 1), (1, 0)), False)

    def test_words_that_are_refused(self):
        self.assertIs(exchangeable(TURN, (0, 0), (1, 1)), True)
        self.assertIs(exchangeable(TURN, (0, 0), (1, 0)), False)
        self.assertIs(exchangeable(TURN, (0, 0), ()), False)

    def test_a_word_with_itself_and_what_the_end_hides(self):
        # The end does not tell the kinds apart, but what comes behind them does.
        late = (("", ""), (((0, ((0,), (1, "a"))), (0, ((0,), (1, "b"))), (0, ((1,), ()))),), ((0,),))
        self.assertIs(exchangeable(late, (0,), (1,)), False)
        self.assertIs(exchangeable(late, (0, 2), (1, 2)), False)
        self.assertIs(exchangeable(late, (0, 2, 2), (1, 2, 2)), True)
        for word in words_up_to(3, 2):
            self.assertIs(exchangeable(late, word, word), True)

    def test_against_all_short_words_around(self):
        maker = Maker(73)
        seen = {True: 0, False: 0}
        for _ in range(150):
            writer = maker.writer()
            kinds = len(writer[1][0])
            s = word_of(maker, kinds, 2)
            t = maker.random.choice((s[::-1], s + (0,), s[1:], word_of(maker, kinds, 2)))
            found = exchangeable(writer, s, t)
            self.assertIs(exchangeable(writer, t, s), found)
            around = [(u, v) for u in words_up_to(kinds, 3) for v in words_up_to(kinds, 2)]
            same = all(text_for(writer, u + s + v) == text_for(writer, u + t + v) for u, v in around)
            if found:
                self.assertTrue(same, (writer, s, t))
            elif same:
                longer = [(u, v) for u in words_up_to(kinds, 5) for v in words_up_to(kinds, 4)]
                self.assertTrue(
                    any(text_for(writer, u + s + v) != text_for(writer, u + t + v) for u, v in longer), (writer, s, t)
                )
            seen[found] += 1
        self.assertGreater(min(seen.values()), 20)


class NeedlessTest(unittest.TestCase):
    def test_emptied(self):
        self.assertEqual(emptied(PAIR, 0), (("",), (((0, ((),)), (0, ((),))),), ((0,),)))
        self.assertEqual(
            emptied(TURN, 0),
            (("", "b"), (((1, ((), (1,))), None), (None, (0, ((), (0,))))), ((0, 1), (1, "c", 0))),
        )
        self.assertEqual(
            emptied(TURN, 1),
            (("", ""), (((1, ((0, "a"), ())), None), (None, (0, (("b", 1), ())))), ((0, 1), (1, "c", 0))),
        )

    def test_emptied_writers_that_are_not_small(self):
        maker = Maker(74)
        for _ in range(20):
            writer = maker.writer(12, 4, 3, 40, "abz", 0.1)
            for buffer in range(3):
                found = require_writer(emptied(writer, buffer))
                self.assertEqual(found[0], writer[0][:buffer] + ("",) + writer[0][buffer + 1:])
                self.assertEqual(found[2], writer[2])
                for row, old in zip(found[1], writer[1]):
                    for entry, other in zip(row, old):
                        if other is None:
                            self.assertIsNone(entry)
                        else:
                            fills = other[1][:buffer] + ((),) + other[1][buffer + 1:]
                            self.assertEqual(entry, (other[0], fills))

    def test_buffers_that_never_come_into_the_text(self):
        never = (("", "b"), (((0, ((0, "a"), (1, "c"))),),), ((0,),))
        self.assertEqual(needless(never), (1,))
        self.assertEqual(needless(exchanged(never)), (0,))
        # The buffer 1 comes into the text by buffer 0 only.
        over = (("", "b"), (((0, ((0, 1), ("c",))),),), ((0,),))
        self.assertEqual(needless(over), ())
        # What it holds then is always empty.
        dull = (("", ""), (((0, ((0, "a", 1), ())),),), ((0, 1),))
        self.assertEqual(needless(dull), (1,))

    def test_two_together(self):
        both = (("ab", "b"), (((0, ((0, "a"), (1, "c"))),),), (("x",),))
        self.assertEqual(needless(both), (0, 1))
        self.assertIs(alike(both, emptied(emptied(both, 0), 1)), True)
        silent = (("ab", "b"), (((0, ((0, "a"), (1, "c"))),),), (None,))
        self.assertEqual(needless(silent), (0, 1))
        behind_end = (("ab", "b"), (((1, ((0, "a"), (1, "c"))),), (None,)), (None, ()))
        self.assertEqual(needless(behind_end), (0, 1))
        self.assertEqual(needless(ONE), ())

    def test_against_all_short_words(self):
        maker = Maker(75)
        seen = {}
        for _ in range(150):
            writer = maker.writer()
            found = needless(writer)
            self.assertIsInstance(found, tuple)
            words = words_up_to(len(writer[1][0]), 5)
            rest = writer
            for buffer in range(len(writer[0])):
                other = emptied(writer, buffer)
                if buffer in found:
                    rest = emptied(rest, buffer)
                    self.assertTrue(all(text_for(writer, word) == text_for(other, word) for word in words))
                else:
                    self.assertFalse(alike(writer, other))
            self.assertTrue(alike(writer, rest))
            self.assertEqual(found, tuple(sorted(found)))
            seen[found] = seen.get(found, 0) + 1
        self.assertGreaterEqual(set(seen), {(), (0,), (1,), (0, 1)})

    def test_writers_at_their_bounds(self):
        maker = Maker(76)
        for _ in range(5):
            writer = maker.writer(4, 3, 2, 24, "abz", 0)
            self.assertIs(exchangeable(writer, (0, 1, 2, 0), (0, 1, 2, 0)), True)
            exchangeable(writer, (0, 1, 2, 0), (2, 1, 0, 1))
            needless(writer)

    def test_arguments_by_name_and_unchanged(self):
        kept = copy.deepcopy(TURN)
        self.assertEqual(marked(writer=TURN, word=(0,)), marked(TURN, (0,)))
        self.assertIs(exchangeable(writer=TURN, first=(0,), second=(0,)), True)
        self.assertEqual(emptied(writer=TURN, buffer=1), emptied(TURN, 1))
        self.assertEqual(needless(writer=TURN), needless(TURN))
        self.assertEqual(TURN, kept)


if __name__ == "__main__":
    unittest.main()
