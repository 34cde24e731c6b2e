import copy
import unittest

from fewtests.forms import accepts, form_fits, opposite, require_form
from fewtests.meets import all_fit, first_accepted, how_many_for, words_for
from fewtests.runs import text_for, words_in_order
from fewtests.writers import require_writer
from reference import Maker, ascending, place_of, words_up_to

PAIR = (("",), (((0, ((0, "a"),)), (0, (("a", 0),))),), ((0,),))
EVEN = (("a",), ((1, 0), (0, 1)), (0,))
ODD = (("a",), ((1, 0), (0, 1)), (1,))
EMPTY = ((), ((1,), (1,)), (0,))
ALL = ((), ((0,),), (0,))
NONE = ((), ((0,),), ())


def cases(seed, many, **kinds):
    maker = Maker(seed)
    return [maker.writer(most=maker.random.randint(0, 2), refused=maker.random.choice((0.1, 0.3, 0.6)), **kinds)
            for _ in range(many)]


def depth_of(writer):
    return {1: 25, 2: 8, 3: 5, 4: 4}[len(writer[1][0])]


class FirstAcceptedTest(unittest.TestCase):
    def test_example(self):
        self.assertEqual(first_accepted(PAIR, ODD), (0,))
        self.assertEqual(first_accepted(PAIR, EVEN), ())

    def test_forms_that_accept_nothing_all_or_the_empty_text(self):
        self.assertIsNone(first_accepted(PAIR, NONE))
        self.assertEqual(first_accepted(PAIR, ALL), ())
        self.assertEqual(first_accepted(PAIR, EMPTY), ())
        self.assertIs(all_fit(PAIR, ALL), True)
        self.assertIs(all_fit(PAIR, NONE), False)
        self.assertIs(all_fit(PAIR, EMPTY), False)
        longer = (("a",), PAIR[1], PAIR[2])
        self.assertIsNone(first_accepted(longer, EMPTY))
        self.assertIs(all_fit(longer, opposite(EMPTY)), True)

    def test_writers_that_write_nothing(self):
        for writer in ((("",), ((None,),), (None,)), (("",), (((0, ((0, "a"),)),),), (None,))):
            for form in (ALL, NONE, EVEN):
                self.assertIsNone(first_accepted(writer, form))
                self.assertIs(all_fit(writer, form), True)

    def test_against_all_short_words(self):
        maker = Maker(51)
        seen = {True: 0, False: 0}
        for writer in cases(52, 250):
            form = self.form_for(writer, maker)
            words = [word for word in words_up_to(len(writer[1][0]), depth_of(writer))]
            texts = {word: text_for(writer, word) for word in words}
            known = next((word for word in words if texts[word] is not None and accepts(form, texts[word])), None)
            found = first_accepted(writer, form)
            if known is not None or found is None:
                self.assertEqual(found, known, (writer, form))
            else:
                self.assertGreater(place_of(found), place_of(words[-1]))
                self.assertTrue(accepts(form, text_for(writer, found)))
            self.assertIs(all_fit(writer, opposite(form)), found is None)
            seen[found is None] += 1
        self.assertGreater(min(seen.values()), 40)

    def form_for(self, writer, maker):
        pick = maker.random
        while True:
            states = pick.randint(1, 4)
            groups = pick.choice(((), ("a",), ("b",), ("ab",), ("a", "b")))
            rows = tuple(tuple(pick.randrange(states) for _ in range(len(groups) + 1)) for _ in range(states))
            form = (groups, rows, (pick.randrange(states),))
            if form_fits(writer, require_form(form)):
                return form

    def test_a_word_far_away(self):
        # The word goes around all states until the text has as many letters as the form asks for.
        rows = tuple((((state + 1) % 12, ((0, "a") if state == 0 else (0,),)), None, None, None) for state in range(12))
        ring = require_writer((("",), rows, (None,) * 11 + ((0,),)))
        three = ((), ((1,), (2,), (3,), (3,)), (3,))
        self.assertEqual(first_accepted(ring, three), (0,) * 35)

    def test_twelve_states_four_kinds_three_buffers(self):
        rows = []
        for state in range(12):
            rows.append((
                ((state + 1) % 12, ((0, "a"), (1,), (2,))),
                ((state + 5) % 12, ((1,), (2, "b"), (0,))),
                (state, (("b", 0), (1, "a"), (2, "ab" * 100))),
                None if state % 3 else ((state * 7) % 12, ((0, 1), (2,), ("b",))),
            ))
        ends = (None,) * 11 + ((0, "b", 1, 2),)
        writer = require_writer((("", "a", "b"), tuple(rows), ends))
        for form in (EVEN, ODD, (("b",), ((1, 0), (1, 1)), (0,)), (("ab",), ((0, 1), (1, 1)), (1,))):
            self.assertTrue(form_fits(writer, form))
            found = first_accepted(writer, form)
            words = [word for word in words_in_order(4, 300) if text_for(writer, word) is not None]
            known = next((word for word in words if accepts(form, text_for(writer, word))), None)
            if known is not None:
                self.assertEqual(found, known)
            elif found is not None:
                self.assertTrue(accepts(form, text_for(writer, found)))
        self.assertIsNone(first_accepted(writer, (("ab",), ((0, 1), (1, 1)), (1,))))
        self.assertIs(all_fit(writer, (("ab",), ((0, 1), (1, 1)), (0,))), True)

    def test_a_fitting_form_of_three_states(self):
        two = (("", "b"), (((0, ((0, "a"), (1,))), (0, ((1,), (0,)))),), ((0, 1),))
        ends = (("a",), ((0, 1), (2, 1), (2, 1)), (2,))
        self.assertTrue(form_fits(two, ends))
        words = words_up_to(2, 6)
        known = next((word for word in words if accepts(ends, text_for(two, word))), None)
        self.assertEqual(first_accepted(two, ends), known)


class WordsForTest(unittest.TestCase):
    def test_example(self):
        self.assertEqual(words_for(PAIR, "aa", 3), ((0, 0), (0, 1), (1, 0)))
        self.assertEqual(how_many_for(PAIR, "aa"), 4)

    def test_how_many_are_asked_for(self):
        self.assertEqual(words_for(PAIR, "aa", 0), ())
        self.assertEqual(words_for(PAIR, "aa", 1), ((0, 0),))
        self.assertEqual(words_for(PAIR, "aa", 4), ((0, 0), (0, 1), (1, 0), (1, 1)))
        self.assertEqual(words_for(PAIR, "aa", 20), ((0, 0), (0, 1), (1, 0), (1, 1)))
        self.assertEqual(words_for(PAIR, "aaaa", 20), tuple(words_up_to(2, 4)[15:]))
        self.assertEqual(words_for(PAIR, "b", 20), ())

    def test_the_empty_text(self):
        self.assertEqual(words_for(PAIR, "", 20), ((),))
        self.assertEqual(how_many_for(PAIR, ""), 1)
        drop = (("ab",), (((0, ((),)), (0, ((0, "a"),))),), ((0,),))
        self.assertEqual(words_for(drop, "", 4), ((0,), (0, 0), (1, 0), (0, 0, 0)))
        self.assertIsNone(how_many_for(drop, ""))

    def test_rings_that_put_nothing_in(self):
        still = (("",), (((0, ((0,),)), (1, ((0, "a"),))), (None, None)), (None, (0,)))
        self.assertIsNone(how_many_for(still, "a"))
        self.assertEqual(words_for(still, "a", 3), ((1,), (0, 1), (0, 0, 1)))
        self.assertEqual(how_many_for(still, "aa"), 0)
        over = (
            ("",),
            (((1, ((0,),)), (3, ((0, "a"),))), ((2, ((0,),)), None), ((0, ((0,),)), None), (None, None)),
            (None, None, None, (0,)),
        )
        self.assertIsNone(how_many_for(over, "a"))
        self.assertEqual(words_for(over, "a", 3), ((1,), (0, 0, 0, 1), (0, 0, 0, 0, 0, 0, 1)))

    def test_rings_that_do_not_lead_to_the_text(self):
        aside = (("",), (((1, ((0,),)), (2, ((0, "a"),))), ((1, ((0,),)), None), (None, None)), (None, None, (0,)))
        self.assertEqual(how_many_for(aside, "a"), 1)
        self.assertEqual(words_for(aside, "a", 20), ((1,),))
        over = (("",), (((0, ((0, "b"),)), (1, ((0, "a"),))), (None, None)), (None, (0,)))
        self.assertEqual(how_many_for(over, "a"), 1)
        self.assertEqual(how_many_for(over, "bba"), 1)
        self.assertEqual(words_for(over, "bba", 20), ((0, 0, 1),))

    def test_rings_in_a_buffer_that_is_dropped(self):
        drop = (("", ""), (((0, ((0,), (1, "b"))), (1, ((0, "a"), ()))), (None, None)), (None, (0, 1)))
        self.assertIsNone(how_many_for(drop, "a"))
        self.assertEqual(words_for(drop, "a", 2), ((1,), (0, 1)))

    def test_parts_that_are_found_twice_in_the_text(self):
        row = ((0, ((0, "a"), (1,))), (0, ((0,), (1, "b"))), (1, ((0, 1), ())))
        both = (("", ""), (row, (None,) * 3), (None, (0,)))
        self.assertEqual(words_for(both, "ab", 20), ((0, 1, 2), (1, 0, 2)))
        self.assertEqual(how_many_for(both, "ab"), 2)
        self.assertEqual(how_many_for(both, "aabb"), 6)
        self.assertEqual(how_many_for(both, "abab"), 0)

    def test_against_all_short_words(self):
        seen = {}
        for writer in cases(53, 150):
            words = words_up_to(len(writer[1][0]), depth_of(writer))
            texts = {word: text_for(writer, word) for word in words}
            for text in ("", "a", "ab", "aa", "bab", "abba"):
                known = [word for word in words if texts[word] == text]
                found = words_for(writer, text, 20)
                self.assertEqual(found, ascending(found))
                self.assertTrue(all(text_for(writer, word) == text for word in found))
                self.assertEqual(list(found[:len(known)]), known[:20])
                for many in (0, 1, 7):
                    self.assertEqual(words_for(writer, text, many), found[:many])
                many = how_many_for(writer, text)
                if len(found) < 20:
                    self.assertEqual(many, len(found))
                else:
                    self.assertTrue(many is None or many >= max(20, len(known)))
                if many is not None and 20 <= many < 2000:
                    self.assertEqual(len(words_for(writer, text, 2000)), many)
                if many is None:
                    self.assertEqual(len(words_for(writer, text, 300)), 300)
                told = "none" if many is None else min(many, 2)
                seen[told] = seen.get(told, 0) + 1
        self.assertEqual(set(seen), {"none", 0, 1, 2})

    def test_small_writers_at_their_bounds(self):
        maker = Maker(54)
        for _ in range(20):
            writer = maker.writer(4, 3, 2, maker.random.choice((0, 1, 1, 24)), "ab", 0)
            for text in ("", "ab", "aaaa", "abab"):
                many = how_many_for(writer, text)
                found = words_for(writer, text, 20)
                self.assertEqual(len(found), 20 if many is None else min(20, many))


class AllTest(unittest.TestCase):
    def test_arguments(self):
        arguments = (PAIR, ODD)
        kept = copy.deepcopy(arguments)
        self.assertEqual(first_accepted(writer=PAIR, form=ODD), (0,))
        self.assertIs(all_fit(writer=PAIR, form=ODD), False)
        self.assertEqual(words_for(writer=PAIR, text="a", many=1), ((0,),))
        self.assertEqual(how_many_for(writer=PAIR, text="a"), 2)
        self.assertEqual(first_accepted(*arguments), first_accepted(*arguments))
        self.assertEqual(arguments, kept)


if __name__ == "__main__":
    unittest.main()
