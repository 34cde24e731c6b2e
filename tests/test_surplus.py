import copy
import unittest

from cases import STRANGE, mutated, prices_for, reordered
from fewtests.claims import decide
from fewtests.surplus import greatest_surplus, is_bound, surplus
from judge import bound_by, judge_heights, judge_rise, text_worth
from reference import Maker, ONE, THREE, TWO, doubled, exchanged, text_for, words_up_to

LONE = (("",), (((0, ((0, "a"),)),),), ((0,),))
LONE2 = (("",), (((0, ((0, "a"),)), (0, ((0, "a"),))),), ((0,),))
ONES = (1,) * 26
ZEROS = (0,) * 26
DEPTHS = {1: 25, 2: 7, 3: 5}
# Words of a single kind 1 are written as b, those of two kinds and more are not written by SHORT.
SHORT = (("",), (((0, ((0, "a"),)), (1, ((0, "b"),))), (None, None)), (None, (0,)))
SWAP = (("", ""), (((0, ((1, "a"), (0, "b"))),),), ((0,),))


def only(letter, price):
    return tuple(price if "abcdefghijklmnopqrstuvwxyz"[at] == letter else 0 for at in range(26))


def gain(first, second, prices, word):
    one, two = text_for(first, word), text_for(second, word)
    return None if one is None or two is None else text_worth(prices, one) - text_worth(prices, two)


def table_for(first, second, prices):
    """A closed table with the least bound, from the paper of a claim that n is far too great."""
    verdict, _, paper = decide(("surplus", first, second, prices, 10 ** 9))
    assert verdict == "broken" and paper[0] == "less", paper[0]
    return paper[1]


class SurplusTest(unittest.TestCase):
    def test_example(self):
        self.assertEqual(surplus(ONE, LONE, ONES, (0, 0)), 3)
        self.assertEqual(greatest_surplus(LONE, ONE, ONES)[:2], ("most", -1))

    def test_words_that_one_of_them_does_not_write(self):
        self.assertIsNone(surplus(SHORT, LONE2, ONES, (0,)))
        self.assertIsNone(surplus(LONE2, SHORT, ONES, (0,)))
        self.assertIsNone(surplus(SHORT, LONE2, ONES, (1, 0)))
        self.assertEqual(surplus(SHORT, LONE2, ONES, (0, 1)), 0)
        self.assertEqual(surplus(SHORT, LONE2, only("b", 5), (0, 1)), 5)

    def test_both_exchanged_turn_it_to_minus(self):
        maker = Maker(61)
        for _ in range(60):
            first, second = maker.pair()
            prices = prices_for(maker)
            for word in words_up_to(len(first[1][0]), 3):
                found = surplus(first, second, prices, word)
                self.assertEqual(found, gain(first, second, prices, word))
                self.assertEqual(surplus(second, first, prices, word), None if found is None else -found)

    def test_arguments_by_name_and_unchanged(self):
        arguments = (ONE, LONE, ONES, (0, 0))
        kept = copy.deepcopy(arguments)
        self.assertEqual(surplus(first=ONE, second=LONE, prices=ONES, word=(0, 0)), 3)
        self.assertEqual(greatest_surplus(first=LONE, second=ONE, prices=ONES)[1], -1)
        table = table_for(LONE, ONE, ONES)
        self.assertIs(is_bound(first=LONE, second=ONE, prices=ONES, value=table, n=-1), True)
        self.assertEqual(arguments, kept)


class GreatestTest(unittest.TestCase):
    def test_none(self):
        self.assertEqual(greatest_surplus(SHORT, (("",), ((None, None),), ((0,),)), ONES), ("none",))
        silent = (("",), (((0, ((0, "a"),)),),), (None,))
        self.assertEqual(greatest_surplus(silent, LONE, ONES), ("none",))
        self.assertEqual(greatest_surplus(silent, silent, ONES), ("none",))
        # Each writes some words, but none is written by both.
        even = (("",), (((1, ((0,),)),), ((0, ((0,),)),)), ((0,), None))
        odd = (("",), (((1, ((0,),)),), ((0, ((0,),)),)), (None, (0,)))
        self.assertEqual(greatest_surplus(even, odd, ONES), ("none",))

    def test_a_writer_with_itself(self):
        maker = Maker(62)
        for _ in range(30):
            writer = maker.writer()
            found = greatest_surplus(writer, writer, prices_for(maker))
            self.assertIn(found[:2], (("most", 0), ("none",)))
            self.assertEqual(greatest_surplus(writer, doubled(exchanged(writer)), ONES)[:2], found[:2])

    def test_words_at_the_greatest_surplus(self):
        self.assertEqual(greatest_surplus(ONE, TWO, ONES)[:2], ("most", 0))
        self.assertEqual(greatest_surplus(LONE, ONE, ONES), ("most", -1, ()))
        # The begins count, and the ends.
        begun = (("zz",), (((0, ((0, "a"),)),),), (("z", 0, "z"),))
        self.assertEqual(greatest_surplus(begun, LONE, ONES)[:2], ("most", 4))
        self.assertEqual(greatest_surplus(LONE, begun, ONES)[:2], ("most", -4))
        self.assertEqual(greatest_surplus(begun, LONE, only("z", -9))[:2], ("most", -36))
        ahead = (("zz",), (((0, ((0, "a"),)),),), (("z", 0),))
        self.assertEqual(greatest_surplus(ahead, LONE, ONES)[:2], ("most", 3))

    def test_what_is_dropped_brings_nothing(self):
        drop = (("zz",), (((0, ((),)),),), ((0,),))
        self.assertEqual(greatest_surplus(drop, LONE, ONES), ("most", 2, ()))
        never = (("zz",), (((0, ((0, "zz"),)),),), (("a",),))
        self.assertEqual(greatest_surplus(never, LONE, ONES), ("most", 1, ()))
        kept = (("", ""), (((0, ((0, "z"), (1,))),),), ((1,),))
        self.assertEqual(greatest_surplus(kept, LONE, ONES), ("most", 0, ()))

    def test_endless(self):
        told, u, v, w = greatest_surplus(ONE, LONE, ONES)
        self.assertEqual(told, "endless")
        self.assertIsNone(judge_rise(ONE, LONE, ONES, (u, v, w)))
        # The two buffers change places: only every second kind comes to the same fates.
        told, u, v, w = greatest_surplus(SWAP, LONE, only("b", 9))
        self.assertEqual((told, len(v) % 2), ("endless", 0))
        self.assertIsNone(judge_rise(SWAP, LONE, only("b", 9), (u, v, w)))
        self.assertEqual(greatest_surplus(SWAP, SWAP, only("b", 9))[:2], ("most", 0))

    def test_a_loop_that_no_word_can_use(self):
        # From state 1 nothing is written; into state 2 no word leads.
        stuck = (
            ("",),
            (((1, ((0, "z"),)), None), ((1, ((0, "z"),)), None), ((2, ((0, "z"),)), (0, ((0,),)))),
            ((0,), None, (0,)),
        )
        flat = (("",), (((0, ((0,),)), (0, ((0,),))),), ((0,),))
        self.assertEqual(greatest_surplus(stuck, flat, ONES), ("most", 0, ()))

    def test_prices_of_letters(self):
        maker = Maker(63)
        for _ in range(40):
            first, second = maker.pair()
            self.assertIn(greatest_surplus(first, second, ZEROS)[:2], (("most", 0), ("none",)))
            self.assertIn(greatest_surplus(first, second, only("q", 9))[:2], (("most", 0), ("none",)))

    def test_against_all_short_words(self):
        maker = Maker(64)
        seen = {}
        for _ in range(400):
            first, second = maker.pair()
            prices = maker.random.choice((prices_for(maker), only("a", -1), only("b", 9), ONES))
            words = words_up_to(len(first[1][0]), DEPTHS[len(first[1][0])])
            gains = [gain(first, second, prices, word) for word in words]
            gains = [one for one in gains if one is not None]
            found = greatest_surplus(first, second, prices)
            seen[found[0]] = seen.get(found[0], 0) + 1
            if found[0] == "none":
                self.assertEqual(gains, [])
            elif found[0] == "most":
                self.assertEqual(len(found), 3)
                self.assertEqual(gain(first, second, prices, found[2]), found[1])
                self.assertLessEqual(max(gains, default=found[1]), found[1])
                if len(found[2]) <= DEPTHS[len(first[1][0])]:
                    self.assertEqual(max(gains), found[1])
            else:
                _, u, v, w = found
                self.assertIsNone(judge_rise(first, second, prices, (u, v, w)), (first, second, prices))
                once = gain(first, second, prices, u + v + w)
                twice = gain(first, second, prices, u + v + v + w)
                self.assertEqual(gain(first, second, prices, u + v + v + v + w) - twice, twice - once)
                self.assertGreater(twice, once)
        self.assertGreater(min(seen.values()), 20)
        self.assertEqual(len(seen), 3)

    def test_writers_at_their_bounds(self):
        maker = Maker(65)
        for _ in range(5):
            first = maker.writer(4, 3, 2, 24, "abz", 0)
            second = maker.writer(4, 3, 2, 24, "abz", 0)
            for prices in (ONES, prices_for(maker), tuple(-price for price in ONES)):
                found = greatest_surplus(first, second, prices)
                if found[0] == "endless":
                    self.assertIsNone(judge_rise(first, second, prices, found[1:]))
                    self.assertLess(sum(map(len, found[1:])), 1000)
                elif found[0] == "most":
                    self.assertEqual(gain(first, second, prices, found[2]), found[1])


class BoundTest(unittest.TestCase):
    def test_bounds(self):
        table = table_for(LONE, ONE, ONES)
        self.assertIs(is_bound(LONE, ONE, ONES, table, -1), True)
        self.assertIs(is_bound(LONE, ONE, ONES, table, 0), True)
        self.assertIs(is_bound(LONE, ONE, ONES, table, -2), False)
        self.assertEqual(bound_by(LONE, ONE, ONES, table), -1)

    def test_no_rows_bound_everything_that_is_never_written(self):
        silent = (("",), (((0, ((0, "a"),)),),), (None,))
        self.assertIs(is_bound(silent, LONE, ONES, (((0, 0),), ()), -10 ** 9), True)
        self.assertIs(is_bound(LONE, LONE, ONES, (((0, 0),), ()), 10 ** 9), False)

    def test_one_thing_changed(self):
        pairs, rows = table = table_for(LONE, ONE, ONES)
        self.assertEqual(table, (((0, 0),), ((0, (1,), 0, (1,), -1),)))
        row = rows[0]
        right = (
            (pairs, ((0, (0,), 0, (0,), -5), row)),
            (pairs, ((0, (0,), 0, (0,), -1), row)),
            (pairs, (row[:4] + (5,),)),
        )
        for value in right:
            self.assertIs(is_bound(LONE, ONE, ONES, value, 5), True, value)
        wrong = (
            (pairs, ()),
            (pairs, rows + rows),
            (pairs, (row, (0, (0,), 0, (0,), -5))),
            (pairs, (row[:4] + (-2,),)),
            (pairs, (row[:4] + (10 ** 9 + 1,),)),
            (pairs, (row[:4] + (-10 ** 9 - 1,),)),
            (pairs, (row[:4] + (True,),)),
            (pairs, (row[:4] + (None,),)),
            (pairs, (row[:4],)),
            (pairs, (row + (0,),)),
            (pairs, (list(row),)),
            (pairs, list(rows)),
            ((), rows),
            ((), ()),
            (pairs + pairs, rows),
            (pairs + ((0, 1),), rows),
            (list(pairs), rows),
            ([0, 0], rows),
            (([0, 0],), rows),
            (((0, 0, 0),), rows),
            (((0, False),), rows),
            (pairs, ((0, (1, 0), 0, (1,), -1),)),
            (pairs, ((0, (2,), 0, (1,), -1),)),
            (pairs, ((0, (True,), 0, (1,), -1),)),
            (pairs, ((0, [1], 0, (1,), -1),)),
            (pairs, ((1, (1,), 0, (1,), -1),)),
            (pairs, ((0, (1,), -1, (1,), -1),)),
            (pairs, rows, ()),
            [pairs, rows],
            pairs,
        )
        for value in wrong + STRANGE:
            self.assertIs(is_bound(LONE, ONE, ONES, value, 10 ** 9), False, value)

    def test_pairs_that_are_not_closed(self):
        walk = (("",), (((1, ((0, "a"),)),), ((0, ((0, "a"),)),)), ((0,), (0,)))
        pairs, rows = table_for(walk, LONE, ONES)
        self.assertEqual(pairs, ((0, 0), (1, 0)))
        self.assertIs(is_bound(walk, LONE, ONES, (pairs, rows), 0), True)
        self.assertIs(is_bound(walk, LONE, ONES, (pairs[:1], rows[:1]), 0), False)
        self.assertIs(is_bound(walk, LONE, ONES, (pairs[:1], rows), 0), False)
        self.assertIs(is_bound(walk, LONE, ONES, (pairs[1:], rows[1:]), 0), False)
        self.assertIs(is_bound(walk, LONE, ONES, (pairs[::-1], rows), 0), False)
        self.assertIs(is_bound(walk, LONE, ONES, (pairs, rows[::-1]), 0), False)
        self.assertIs(is_bound(walk, LONE, ONES, (pairs, rows[:1]), 0), False)
        # A pair to which no word leads may stand there, if it is closed, too.
        spare = (walk[0], walk[1] + (((2, ((0, "a"),)),),), walk[2] + (None,))
        self.assertIs(is_bound(spare, LONE, ONES, (pairs + ((2, 0),), rows), 0), True)
        open_pair = (walk[0], walk[1] + (((2, ((0, "a"),)),),), walk[2] + ((0,),))
        self.assertIs(is_bound(open_pair, LONE, ONES, (pairs + ((2, 0),), rows), 0), False)
        self.assertIs(is_bound(open_pair, LONE, ONES, (pairs, rows), 0), True)

    def test_tables_against_the_definition(self):
        maker = Maker(66)
        seen = {}
        for _ in range(150):
            first, second = maker.pair()
            prices = prices_for(maker)
            found = greatest_surplus(first, second, prices)
            if found[0] == "endless":
                continue
            table = table_for(first, second, prices)
            self.assertIsNone(judge_heights(first, second, prices, table))
            n = found[1] if found[0] == "most" else None
            self.assertEqual(bound_by(first, second, prices, table), n)
            for change in (0, 1, -1, None):
                limit = -10 ** 9 if change is None else (n or 0) + change
                self.assertIs(is_bound(first, second, prices, table, limit), n is None or limit >= n)
            for _ in range(8):
                value = reordered(mutated(maker.random, table))
                fault = judge_heights(first, second, prices, value)
                self.assertIs(is_bound(first, second, prices, value, 10 ** 9), fault is None, (first, second, value))
                seen[fault and fault[0]] = seen.get(fault and fault[0], 0) + 1
        self.assertGreaterEqual(set(seen), {None, "paper", "step", "end"})


if __name__ == "__main__":
    unittest.main()
