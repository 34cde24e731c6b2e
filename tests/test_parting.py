import copy
import unittest

from fewtests.parting import alike, first_difference, first_outside, within
from fewtests.runs import differ, text_for
from fewtests.suites import closed_tests
from reference import Maker, ONE, THREE, TWO, doubled, exchanged, first_of, is_outside, place_of, words_up_to

SHORT = (("",), (((1, ((0, "a"),)),), (None,)), (None, (0,)))
DEPTHS = {1: 30, 2: 7, 3: 5}


class ExamplesTest(unittest.TestCase):
    def test_example(self):
        self.assertIs(alike(ONE, TWO), True)
        self.assertEqual(first_difference(ONE, THREE), (0, 0))
        self.assertIsNone(first_difference(ONE, TWO))
        self.assertIs(alike(ONE, THREE), False)

    def test_the_empty_word(self):
        other = (("",), (((0, ((0, "ab"),)),),), ((0, "b"),))
        self.assertEqual(first_difference(ONE, other), ())
        self.assertEqual(first_outside(ONE, other), ())
        silent = (("",), (((0, ((0, "ab"),)),),), (None,))
        self.assertEqual(first_difference(ONE, silent), ())
        self.assertEqual(first_outside(ONE, silent), ())
        self.assertIsNone(first_outside(silent, ONE))
        self.assertIs(within(silent, ONE), True)
        self.assertIs(within(ONE, silent), False)

    def test_differences_by_a_refused_word(self):
        # SHORT writes just the word (0,), with the text a.
        long = (("",), (((1, ((0, "a"),)),), ((1, ((0, "a"),)),)), (None, (0,)))
        self.assertEqual(first_difference(SHORT, long), (0, 0))
        self.assertEqual(first_difference(long, SHORT), (0, 0))
        self.assertIsNone(first_outside(SHORT, long))
        self.assertEqual(first_outside(long, SHORT), (0, 0))
        self.assertIs(within(SHORT, long), True)
        self.assertIs(within(long, SHORT), False)
        self.assertIs(alike(SHORT, long), False)

    def test_refused_words_that_would_not_be_written(self):
        dull = (("",), (((1, ((0, "a"),)),), ((2, ((0, "a"),)),), ((2, ((0,),)),)), (None, (0,), None))
        self.assertIs(alike(SHORT, dull), True)
        self.assertIs(alike(dull, SHORT), True)

    def test_differences_by_a_missing_end(self):
        some = (("",), (((1, ((0, "a"),)), (0, ((0,),))), ((0, ((0, "b"),)), None)), ((0,), (0,)))
        fewer = (some[0], some[1], ((0,), None))
        self.assertEqual(first_difference(some, fewer), (0,))
        self.assertEqual(first_outside(some, fewer), (0,))
        self.assertIsNone(first_outside(fewer, some))

    def test_differences_behind_a_state_that_one_writer_has_left(self):
        stay = (("",), (((0, ((0, "a"),)), (0, ((0, "b"),))), (None, None)), ((0,), None))
        leave = (
            ("",),
            (((1, ((0, "a"),)), (0, ((0, "b"),))), ((1, ((0, "a"),)), (1, (("b", 0),)))),
            ((0,), (0,)),
        )
        self.assertEqual(first_difference(stay, leave), (0, 1))
        self.assertEqual(first_difference(leave, stay), (0, 1))

    def test_first_outside_comes_later_than_the_first_difference(self):
        first = (("",), (((1, ((0, "a"),)),), ((1, ((0, "a"),)),)), (None, (0,)))
        second = (("",), (((1, ((0, "a"),)),), ((1, (("a", 0, "b"),)),)), ((0,), (0,)))
        self.assertEqual(first_difference(first, second), ())
        self.assertEqual(first_outside(first, second), (0, 0))
        self.assertEqual(first_outside(second, first), ())

    def test_texts_that_differ_late(self):
        # The same letters are put ahead and behind: only the other letter shows it.
        ahead = (("",), (((0, (("a", 0),)), (0, (("b", 0),))),), ((0,),))
        behind = (("",), (((0, ((0, "a"),)), (0, ((0, "b"),))),), ((0,),))
        self.assertEqual(first_difference(ahead, behind), (0, 1))
        # Both kinds are one: no word tells.
        same = (("",), (((0, (("a", 0),)), (0, (("a", 0),))),), ((0,),))
        other = (("",), (((0, ((0, "a"),)), (0, ((0, "a"),))),), ((0,),))
        self.assertIs(alike(same, other), True)

    def test_a_difference_far_away(self):
        # The second one counts to 11 by three and four states before it writes anything else.
        def ring(many, text):
            rows = tuple((((state + 1) % many, ((0,),)),) for state in range(many))
            return (("",), rows, ((0,),) * (many - 1) + ((0, text) if text else (0,),))
        self.assertEqual(first_difference(ring(4, "a"), ring(3, "a")), (0, 0))
        last_only = (ring(4, "")[0], ring(4, "")[1], (None, None, None, (0, "a")))
        third_only = (ring(3, "")[0], ring(3, "")[1], ((0, "a"), (0, "a"), None))
        self.assertEqual(first_outside(last_only, third_only), (0,) * 11)

    def test_arguments_by_name_and_unchanged(self):
        arguments = (ONE, THREE)
        kept = copy.deepcopy(arguments)
        self.assertEqual(first_difference(first=ONE, second=THREE), (0, 0))
        self.assertEqual(first_outside(first=ONE, second=THREE), (0, 0))
        self.assertIs(alike(first=ONE, second=TWO), True)
        self.assertIs(within(first=ONE, second=TWO), True)
        self.assertEqual(arguments, kept)


class ManyTest(unittest.TestCase):
    def test_against_all_short_words(self):
        maker = Maker(21)
        seen = {}
        for _ in range(150):
            first, second = maker.pair()
            words = words_up_to(len(first[1][0]), DEPTHS[len(first[1][0])])
            known = first_of(words, lambda word: differ(first, second, word))
            found = first_difference(first, second)
            self.check(found, known, words, (first, second), lambda word: differ(first, second, word))
            self.assertEqual(first_difference(second, first), found)
            self.assertIs(alike(first, second), found is None)
            if found is not None:
                self.assertLess(len(found), len(closed_tests(first, second)))
            known = first_of(words, lambda word: is_outside(first, second, word))
            outside = first_outside(first, second)
            self.check(outside, known, words, (first, second), lambda word: is_outside(first, second, word))
            self.assertIs(within(first, second), outside is None)
            both = within(first, second) and within(second, first)
            self.assertIs(both, found is None)
            told = (found is None, outside is None)
            seen[told] = seen.get(told, 0) + 1
        self.assertEqual(set(seen), {(True, True), (False, True), (False, False)})
        self.assertGreater(min(seen.values()), 10)

    def check(self, found, known, words, case, holds):
        if known is not None or found is None:
            self.assertEqual(found, known, case)
        else:
            self.assertTrue(holds(found), case)
            self.assertGreater(place_of(found), place_of(words[-1]), case)

    def test_tests_that_are_closed_tell_all(self):
        maker = Maker(22)
        for _ in range(60):
            first, second = maker.pair()
            same = not any(differ(first, second, test) for test in closed_tests(first, second))
            self.assertIs(alike(first, second), same)
            if same:
                words = words_up_to(len(first[1][0]), DEPTHS[len(first[1][0])])
                self.assertFalse(any(differ(first, second, word) for word in words))

    def test_writers_that_are_made_otherwise(self):
        maker = Maker(23)
        for _ in range(40):
            writer = maker.writer(states=2)
            for other in (writer, exchanged(writer), doubled(writer), doubled(exchanged(writer))):
                self.assertIs(alike(writer, other), True)
                self.assertIs(alike(other, writer), True)
                self.assertIs(within(writer, other), True)

    def test_writers_at_their_bounds(self):
        maker = Maker(24)
        for _ in range(4):
            writer = maker.writer(4, 3, 2, 24, "abz", 0)
            self.assertIs(alike(writer, exchanged(writer)), True)
            self.assertIs(within(writer, exchanged(writer)), True)
            fewer = (writer[0], writer[1], writer[2][:3] + (None,))
            self.assertIs(within(fewer, exchanged(writer)), True)
            found = first_difference(fewer, exchanged(writer))
            if found is not None:
                self.assertIsNone(text_for(fewer, found))
                self.assertEqual(first_outside(writer, fewer), found)


if __name__ == "__main__":
    unittest.main()
