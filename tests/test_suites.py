import copy
import unittest

from fewtests.runs import behind, words_in_order
from fewtests.suites import closed_tests, fewest_tests, is_closed, is_closed_within, is_fine, lacking, uncovered
from fewtests.sums import dimension, is_fine_sum
from reference import (
    FORK,
    Maker,
    ONE,
    TWO,
    ascending,
    closed_by_words,
    doubled,
    exchanged,
    fewest_closed,
    is_sum_of,
    pair_behind,
    place_of,
    shadow_at,
    shadows_by_pair,
    words_up_to,
)
from fewtests.shadows import pair_shadow

# Two kinds lead from state to state and put letters in, so that many words are needed.
RING = (
    ("", "b"),
    (
        ((1, ((0, "a"), ("b", 1))), (0, ((1,), (0, "a")))),
        ((0, (("ab", 0), (1,))), (1, ((0, 1), ()))),
    ),
    ((0, 1), ("a", 1, "b", 0)),
)


def cases(seed, many):
    maker = Maker(seed)
    return [maker.pair() for _ in range(many)]


class ClosedTest(unittest.TestCase):
    def test_example(self):
        self.assertEqual(fewest_tests(ONE, TWO), 2)
        self.assertIs(is_closed(ONE, TWO, ((), (0,))), True)
        self.assertEqual(uncovered(ONE, TWO, ((),)), (0,))
        self.assertIs(is_closed(ONE, TWO, ((),)), False)

    def test_fewest_are_closed_and_few(self):
        for first, second in cases(1, 60) + [(RING, RING), (RING, exchanged(RING)), (RING, doubled(RING))]:
            found = closed_tests(first, second)
            self.assertIsInstance(found, tuple)
            self.assertEqual(found[0], ())
            self.assertEqual(found, ascending(found))
            self.assertEqual(len(found), len(fewest_closed(first, second)))
            self.assertEqual(fewest_tests(first, second), len(found))
            self.assertTrue(all(len(word) < len(found) for word in found))
            self.assertTrue(closed_by_words(first, second, found))
            self.assertIs(is_closed(first, second, found), True)

    def test_fewest_are_the_dimensions_together(self):
        for first, second in cases(2, 25):
            kinds = len(first[1][0])
            known = shadows_by_pair(first, second, words_up_to(kinds, {1: 40, 2: 7, 3: 5}[kinds]))
            known.pop(None, None)
            many = sum(dimension(tuple(rows)[:60]) for rows in known.values())
            self.assertGreaterEqual(fewest_tests(first, second), many)
            if kinds == 1:
                self.assertEqual(fewest_tests(first, second), many)

    def test_a_writer_with_itself(self):
        self.assertEqual(fewest_tests(ONE, ONE), 2)
        still = (("ab",), (((0, ((0,),)),),), ((0,),))
        self.assertEqual(closed_tests(still, still), ((),))
        stopped = (("ab",), ((None, None),), (None,))
        self.assertEqual(closed_tests(stopped, stopped), ((),))
        self.assertEqual(closed_tests(RING, RING), fewest_closed(RING, RING))

    def test_words_that_one_writer_refuses(self):
        short = (("",), (((1, ((0, "a"),)),), (None,)), (None, (0,)))
        self.assertEqual(closed_tests(ONE, short), ((), (0,), (0, 0)))
        self.assertEqual(closed_tests(short, ONE), ((), (0,), (0, 0)))
        self.assertEqual(closed_tests(short, short), ((), (0,)))
        self.assertIs(is_closed(short, short, ((), (0,), (0, 0))), False)
        self.assertIs(is_closed(ONE, short, ((), (0,))), False)
        self.assertIs(is_closed(ONE, short, ((), (0,), (0, 0), (0, 0, 0))), True)

    def test_any_tests_against_the_definition(self):
        maker = Maker(3)
        seen = set()
        for first, second in cases(4, 60):
            kinds = len(first[1][0])
            some = words_up_to(kinds, 2)
            # With many tests the definition takes long.
            for _ in range(6 if fewest_tests(first, second) <= 12 else 0):
                tests = list(closed_tests(first, second))
                if maker.random.random() < 0.5:
                    tests.pop()
                tests = ascending([()] + tests + maker.random.sample(some, min(len(some), maker.random.randint(0, 3))))
                for told, inside in ((is_closed, False), (is_closed_within, True)):
                    answer = told(first, second, tests)
                    self.assertIs(answer, closed_by_words(first, second, tests, inside), (first, second, tests))
                    seen.add((inside, answer))
        self.assertEqual(len(seen), 4)

    def test_one_thing_changed(self):
        tests = closed_tests(RING, RING)
        self.assertGreater(len(tests), 4)
        last = tests[-1]
        wrong = [
            tests[1:],
            tests[::-1],
            tests[:1] + tests[2:3] + tests[1:2] + tests[3:],
            tests[:1] + tests,
            tests + (last,),
            tests[:-1],
            list(tests),
            tests[:-1] + (list(last),),
            tests[:-1] + (last[:-1] + (True,),),
            tests[:-1] + (last[:-1] + (False,),),
            tests + ((0,) * 9 + (2,),),
            tests + ((0,) * 9 + (-1,),),
            tests + ((0,) * 9 + (None,),),
            tests + ((0,) * 9 + ("0",),),
            tests + ((0,) * 9 + ((0,),),),
            tests + ("0" * 20,),
            tests + (0,),
            tests + (None,),
            tests + ((0,) * 301,),
            ((), True) + tests[2:],
            {word: True for word in tests},
        ]
        for value in wrong:
            self.assertIs(is_closed(RING, RING, value), False, value)
            self.assertIs(is_closed_within(RING, RING, value), False, value)
            self.assertIs(is_fine(RING, (), value), False, value)
        self.assertIs(is_closed(RING, RING, tests), True)
        self.assertIs(is_closed(RING, RING, tests + ((0,) * 300,)), True)
        self.assertIs(is_closed_within(RING, RING, tests + ((0, 1) * 150,)), True)

    def test_values_of_every_kind(self):
        for value in (None, True, 0, 10 ** 79, "", "ab", (), [], {}, ((),) * 2, [()], (((),),), ((), ((),)), (None,), ("",)):
            self.assertIs(is_closed(ONE, TWO, value), False, value)
            self.assertIs(is_closed_within(ONE, TWO, value), False, value)
            self.assertIs(is_fine(ONE, (0,), value), False, value)
        deep = ()
        for _ in range(39):
            deep = (deep,)
        self.assertIs(is_closed(ONE, TWO, deep), False)
        self.assertIs(is_closed(ONE, TWO, tuple(range(300000))), False)
        self.assertIs(is_closed(ONE, TWO, ((),) + tuple((0,) * many for many in range(1, 301))), True)


class ClosedWithinTest(unittest.TestCase):
    def test_where_the_first_refuses_more(self):
        short = (("",), (((1, ((0, "a"),)),), (None,)), (None, (0,)))
        self.assertIs(is_closed_within(short, ONE, ((), (0,))), True)
        self.assertIs(is_closed(short, ONE, ((), (0,))), False)
        self.assertIs(is_closed_within(short, ONE, ((), (0,), (0, 0))), False)
        self.assertIs(is_closed_within(ONE, short, ((), (0,))), False)
        self.assertIs(is_closed_within(ONE, short, ((), (0,), (0, 0))), True)
        self.assertIs(is_closed_within(short, ONE, ((),)), False)

    def test_fewest_that_are_so(self):
        for first, second in cases(6, 40):
            tests = fewest_closed(first, second, True)
            self.assertIs(is_closed_within(first, second, tests), True)
            if len(tests) > 1:
                self.assertIs(is_closed_within(first, second, tests[:-1]), False)


class FineTest(unittest.TestCase):
    def fine_by_words(self, writer, word, tests):
        found = {}
        for test in tests:
            told = shadow_at(writer, word + test)
            if told is None:
                return False
            found.setdefault(told[0], []).append(told[1])
        for test in tests:
            for kind in range(len(writer[1][0])):
                told = shadow_at(writer, word + test + (kind,))
                if told is not None and not is_fine_sum(tuple(found.get(told[0], ())), told[1]):
                    return False
        return True

    def test_closed_tests_that_are_not_fine(self):
        self.assertIs(is_closed(FORK, FORK, ((), (0,), (1,))), True)
        self.assertIs(is_fine(FORK, (), ((), (0,), (1,))), False)
        self.assertIs(is_fine(FORK, (), ((), (0,), (2,))), True)
        self.assertIs(is_fine(FORK, (), ((), (1,), (2,))), True)
        self.assertIs(is_fine(FORK, (), ((), (0,), (1,), (2,))), True)
        self.assertIs(is_fine(FORK, (), ((), (2,))), False)
        self.assertIs(is_fine(FORK, (1,), ((),)), True)
        self.assertIs(is_fine(FORK, (1,), ((), (0,))), False)

    def test_letters_that_are_put_ahead(self):
        head = (("",), (((0, (("a", 0),)), (1, (("x", 0),))), (None, None)), (None, (0,)))
        for word in ((), (0,), (0,) * 60):
            self.assertIs(is_fine(head, word, ((), (0,), (1,), (0, 1))), True)
            self.assertIs(is_fine(head, word, ((), (0,), (1,))), False)
            self.assertIs(is_fine(head, word, ((), (0,), (1,), (1, 0))), False)

    def test_any_tests_against_the_definition(self):
        maker = Maker(7)
        seen = {True: 0, False: 0}
        for _ in range(80):
            writer = maker.writer()
            kinds = len(writer[1][0])
            some = words_up_to(kinds, 3)
            for _ in range(4):
                word = maker.random.choice([word for word in some if behind(writer, word) is not None])
                picked = maker.random.sample(some, min(len(some), maker.random.randint(0, 9)))
                if maker.random.random() < 0.7:
                    picked = [test for test in picked if behind(writer, word + test) is not None]
                tests = ascending([()] + picked)
                answer = is_fine(writer, word, tests)
                self.assertIs(answer, self.fine_by_words(writer, word, tests), (writer, word, tests))
                seen[answer] += 1
        self.assertGreater(min(seen.values()), 40)


class UncoveredTest(unittest.TestCase):
    def test_edges(self):
        self.assertEqual(uncovered(ONE, TWO, ()), ())
        self.assertEqual(uncovered(ONE, TWO, ((0,), (0, 0))), ())
        self.assertIsNone(uncovered(ONE, TWO, ((0,), ())))
        self.assertIsNone(uncovered(ONE, TWO, ((0,), (), (0,), ())))
        stopped = (("ab",), ((None, None),), (None,))
        self.assertIsNone(uncovered(stopped, stopped, ((),)))
        self.assertIsNone(uncovered(stopped, stopped, ((), (0, 1), (1,))))
        self.assertIsNone(uncovered(ONE, TWO, ((), (0,) * 700)))
        self.assertIsNone(uncovered(ONE, TWO, ((), (0,) * 1000, (0,))))

    def test_against_the_definition(self):
        maker = Maker(9)
        seen = set()
        for first, second in cases(10, 60):
            kinds = len(first[1][0])
            some = words_up_to(kinds, 3)
            for _ in range(4):
                words = list(closed_tests(first, second)) + maker.random.sample(some, min(len(some), 3))
                words = [word for word in words if word == () or maker.random.random() < 0.8]
                words += maker.random.sample(words, 1)
                maker.random.shuffle(words)
                known = shadows_by_pair(first, second, ascending(words))
                least = None
                for word in ascending(word + (kind,) for word in words for kind in range(kinds)):
                    pair = pair_behind(first, second, word)
                    if pair and not is_sum_of(known.get(pair, []), pair_shadow(first, second, word)):
                        least = word
                        break
                self.assertEqual(uncovered(first, second, tuple(words)), least)
                seen.add(least is None)
        self.assertEqual(len(seen), 2)


class LackingTest(unittest.TestCase):
    def test_edges(self):
        self.assertEqual(lacking(ONE, TWO, ((),)), ((0,),))
        self.assertEqual(lacking(ONE, TWO, ((), (0,))), ())
        self.assertEqual(lacking(ONE, TWO, ((0,) * 9, ())), ())
        self.assertEqual(len(lacking(RING, RING, ((),))), fewest_tests(RING, RING) - 1)

    def test_what_is_lacking_closes_and_is_few(self):
        maker = Maker(12)
        for first, second in cases(13, 60):
            kinds = len(first[1][0])
            some = [word for word in words_up_to(kinds, 4) if pair_behind(first, second, word)]
            words = maker.random.sample(some, min(len(some), maker.random.randint(1, 6))) + [()]
            maker.random.shuffle(words)
            found = lacking(first, second, tuple(words))
            self.assertIsInstance(found, tuple)
            self.assertEqual(found, ascending(found))
            together = ascending(tuple(words) + found)
            self.assertTrue(closed_by_words(first, second, together))
            self.assertIs(is_closed(first, second, together), True)
            known = shadows_by_pair(first, second, words)
            many = fewest_tests(first, second) - sum(dimension(tuple(rows)) for rows in known.values())
            self.assertEqual(len(found), many)


class AllTest(unittest.TestCase):
    def test_arguments_by_name(self):
        tests = ((), (0,))
        self.assertIs(is_closed(first=ONE, second=TWO, tests=tests), True)
        self.assertIs(is_closed_within(first=ONE, second=TWO, tests=tests), True)
        self.assertIs(is_fine(writer=ONE, word=(0,), tests=tests), True)
        self.assertEqual(closed_tests(first=ONE, second=TWO), tests)
        self.assertEqual(fewest_tests(first=ONE, second=TWO), 2)
        self.assertEqual(uncovered(first=ONE, second=TWO, words=((),)), (0,))
        self.assertEqual(lacking(first=ONE, second=TWO, words=((),)), ((0,),))

    def test_arguments_stay(self):
        tests = [[], [0]]
        arguments = (RING, exchanged(RING), tests, ((), (1,), (0,)))
        kept = copy.deepcopy(arguments)
        first, second, tests, words = arguments
        for _ in range(2):
            self.assertIs(is_closed(first, second, tests), False)
            self.assertIs(is_fine(first, (), tests), False)
            uncovered(first, second, words)
            lacking(first, second, words)
            closed_tests(first, second)
            self.assertEqual(arguments, kept)

    def test_writers_at_their_bounds(self):
        maker = Maker(14)
        for _ in range(4):
            first = maker.writer(4, 3, 2, 24, "abz", 0)
            second = maker.writer(4, 3, 2, 24, "abz", 0)
            for other in (first, exchanged(first), second):
                tests = closed_tests(first, other)
                self.assertIs(is_closed(first, other, tests), True)
                self.assertIs(is_closed(first, other, tests[:-1]), False)
                self.assertIs(is_closed(first, other, tests + ((0, 1, 2) * 100,)), True)
                self.assertIsNone(uncovered(first, other, tests[::-1]))
                self.assertEqual(len(lacking(first, other, ((),))), len(tests) - 1)
            self.assertIs(is_fine(first, (0, 1, 2) * 20, tuple(words_in_order(3, 40))), False)

    def test_long_chains_of_words(self):
        pieces = ("abcdefghijkl", "zyxwvutsrqpo")
        def ring(many, letters):
            rows = tuple((((state + 1) % many, ((0, letters[state % 2]), (letters[-1 - state % 2], 1))),)
                         for state in range(many))
            return (("a", "b"), rows, ((0, 1),) * many)
        tests = closed_tests(ring(4, pieces), ring(3, pieces[::-1]))
        self.assertGreater(len(tests), 30)
        self.assertEqual(tests, tuple((0,) * many for many in range(len(tests))))
        self.assertIs(is_closed(ring(4, pieces), ring(3, pieces[::-1]), tests), True)
        self.assertIs(is_closed(ring(4, pieces), ring(3, pieces[::-1]), tests[:-1]), False)


if __name__ == "__main__":
    unittest.main()
