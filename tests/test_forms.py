import copy
import itertools
import unittest

from fewtests.errors import InvalidForm
from fewtests.forms import accepts, effect, form_fits, opposite, require_form

EVEN = (("a",), ((1, 0), (0, 1)), (0,))
WIDE = (("abc", "xz", "m"), ((0, 1, 2, 3), (1, 2, 3, 0), (2, 3, 0, 1), (3, 0, 1, 2)), (0, 2))


def writer_of(buffers):
    return (("",) * buffers, ((None,),), (None,))


class RequireFormTest(unittest.TestCase):
    def check(self, value, part):
        with self.assertRaises(InvalidForm) as caught:
            require_form(value)
        self.assertEqual(caught.exception.part, part, value)

    def test_forms(self):
        for form in (
            EVEN,
            WIDE,
            ((), ((0,),), ()),
            ((), ((0,),), (0,)),
            (("abcdefghijklmnopqrstuvwxyz",), ((0, 0),), ()),
            (("b", "a"), ((0, 0, 0),), (0,)),
            (("az", "by"), ((1, 0, 1), (0, 0, 0)), (0, 1)),
        ):
            self.assertIs(require_form(form), form)
        self.assertIs(require_form(value=EVEN), EVEN)

    def test_no_triple_of_tuples(self):
        groups, rows, good = EVEN
        for value in (
            None, True, 5, "abc", (), {}, [groups, rows, good], (groups, rows), (groups, rows, good, ()),
            (list(groups), rows, good), (groups, list(rows), good), (groups, rows, list(good)),
            ("a", rows, good), (groups, "a", good), (groups, rows, None), (groups, {}, good), (groups, rows, 0),
        ):
            self.check(value, None)

    def test_numbers_of_rows(self):
        self.check(((), (), ()), None)
        self.check(((), ((0,),) * 5, ()), None)
        self.check((("a", "a", "b", "c", "d"), ((0,),) * 5, (9,)), None)
        require_form(((), ((0,),) * 4, ()))

    def test_groups(self):
        rows = ((0,), (0,))
        for groups in (
            ("a", "b", "c", "d"), ("",), ("a", ""), ("aa",), ("ba",), ("abb",), ("acb",), ("a", "a"), ("ab", "bc"),
            ("abc", "d", "ef", "g"), ("A",), ("aB",), ("a1",), ("a b",), (" ",), ("a-",), ("\u00e9",), ("\u00df",),
            ("`",), ("{",), (("a",),), (["a"],), (1,), (None,), (True,), ("a", 1), ("a", None), ({},), ("a" * 30000,),
        ):
            self.check((groups, rows, ()), ("groups",))

    def test_rows(self):
        for row in (
            (), (0,), (0, 0, 0), [0, 0], (2, 0), (0, 2), (-1, 0), (0, True), (False, 0), (0, None), (0, "0"), (0, (0,)),
            None, 0, True, "00", {}, (0, 10 ** 79), (0, [0]), (0, {}),
        ):
            self.check((("a",), (row, (0, 0)), ()), ("row", 0))
            self.check((("a",), ((0, 1), row), ()), ("row", 1))
            if row not in ((2, 0), (0, 2)):
                self.check((("a",), ((0, 1), (1, 1), row, (0, 0)), ()), ("row", 2))
        self.check((("a", "b", "c"), ((0, 0, 0),), ()), ("row", 0))

    def test_good(self):
        for good in (
            (0, 0), (1, 0), (0, 1, 1), (2,), (-1,), (0, 2), (True,), (False,), (0, True), (None,), ("0",), ((0,),),
            ([],), (0, 1, 2), (10 ** 79,), ({},),
        ):
            self.check((("a",), ((0, 1), (1, 0)), good), ("good",))

    def test_the_first_part_is_told(self):
        self.check((("ba",), ((9,),), (9,)), ("groups",))
        self.check((("ab",), ((9,),), (9,)), ("row", 0))
        self.check((("ab",), ((0, 0), (0, 9), 7), (9,)), ("row", 1))
        self.check((("ab",), ((0, 0),), (9,)), ("good",))
        self.check((["ba"], ((9,),), (9,)), None)

    def test_values_of_every_kind_at_every_depth(self):
        for value in (None, True, False, 0, -1, 7, 10 ** 79, "", "ab", "A", [], {}, [0], {"a": 0}, ((((),),),)):
            for form, part in (
                (value, None),
                ((value, EVEN[1], EVEN[2]), None),
                ((EVEN[0], value, EVEN[2]), None),
                ((EVEN[0], EVEN[1], value), None),
            ):
                if not isinstance(value, tuple) or form is value:
                    self.check(form, part)
            if value != "ab":
                self.check(((value,), EVEN[1], EVEN[2]), ("groups",))
            self.check((EVEN[0], (value, (0, 0)), EVEN[2]), ("row", 0))
            if value is False or value != 0:
                self.check((EVEN[0], ((0, 0), (value, 0)), EVEN[2]), ("row", 1))
                self.check((EVEN[0], EVEN[1], (value,)), ("good",))


class EffectTest(unittest.TestCase):
    def test_example(self):
        self.assertEqual(effect(EVEN, "aba"), (0, 1))
        self.assertEqual(effect(EVEN, "b"), (0, 1))
        self.assertIs(accepts(EVEN, "ab"), False)
        self.assertIs(accepts(EVEN, "aba"), True)

    def test_no_letters(self):
        self.assertEqual(effect(EVEN, ""), (0, 1))
        self.assertEqual(effect(WIDE, ""), (0, 1, 2, 3))
        self.assertIs(accepts(EVEN, ""), True)
        self.assertIs(accepts((("a",), ((1, 0), (0, 1)), (1,)), ""), False)

    def test_letters_of_no_group_lead_by_the_last_state(self):
        self.assertEqual(effect(WIDE, "d"), (3, 0, 1, 2))
        self.assertEqual(effect(WIDE, "y"), (3, 0, 1, 2))
        self.assertEqual([effect(WIDE, letter) for letter in "abc"], [(0, 1, 2, 3)] * 3)
        self.assertEqual([effect(WIDE, letter) for letter in "xz"], [(1, 2, 3, 0)] * 2)
        self.assertEqual(effect(WIDE, "m"), (2, 3, 0, 1))
        self.assertEqual(effect(((), ((1,), (1,)), ()), "q"), (1, 1))

    def test_letter_by_letter(self):
        for letters in itertools.product("amxq", repeat=4):
            text = "".join(letters)
            for form in (EVEN, WIDE, (("q", "m"), ((1, 2, 0), (2, 2, 1), (2, 0, 0)), (2,))):
                groups, rows, good = form
                found = []
                for state in range(len(rows)):
                    for letter in text:
                        state = rows[state][[letter in group for group in groups].index(True) if letter in
                                            "".join(groups) else -1]
                    found.append(state)
                self.assertEqual(effect(form, text), tuple(found))
                self.assertIs(accepts(form, text), found[0] in good)
                self.assertIs(accepts(opposite(form), text), found[0] not in good)

    def test_two_texts_put_together(self):
        for left, right in itertools.product(("", "a", "mx", "qqa"), repeat=2):
            first, second = effect(WIDE, left), effect(WIDE, right)
            self.assertEqual(effect(WIDE, left + right), tuple(second[state] for state in first))

    def test_long_texts(self):
        self.assertEqual(effect(form=EVEN, text="ab" * 10000), (0, 1))
        self.assertIs(accepts(form=EVEN, text="a" * 19999), False)


class OppositeTest(unittest.TestCase):
    def test_edges(self):
        self.assertEqual(opposite(EVEN), (("a",), ((1, 0), (0, 1)), (1,)))
        self.assertEqual(opposite(form=WIDE), (WIDE[0], WIDE[1], (1, 3)))
        self.assertEqual(opposite(((), ((0,),), ())), ((), ((0,),), (0,)))
        self.assertEqual(opposite(((), ((0,),), (0,))), ((), ((0,),), ()))

    def test_twice(self):
        kept = copy.deepcopy((EVEN, WIDE))
        for form in (EVEN, WIDE):
            self.assertEqual(opposite(opposite(form)), form)
            self.assertEqual(require_form(opposite(form)), opposite(form))
        self.assertEqual((EVEN, WIDE), kept)


class FitsTest(unittest.TestCase):
    def test_bounds(self):
        for states, buffers in itertools.product(range(1, 5), range(1, 4)):
            form = ((), ((0,),) * states, ())
            fits = states ** (states * buffers) <= 1000
            self.assertIs(form_fits(writer_of(buffers), form), fits, (states, buffers))
        self.assertIs(form_fits(writer=writer_of(2), form=((), ((0,),) * 3, ())), True)
        self.assertIs(form_fits(writer_of(3), ((), ((0,),) * 3, ())), False)
        self.assertIs(form_fits(writer_of(2), ((), ((0,),) * 4, ())), False)


if __name__ == "__main__":
    unittest.main()
