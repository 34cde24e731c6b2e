import unittest

from fewtests.errors import InvalidWriter
from fewtests.writers import is_small, joined, require_writer

BASE = (
    ("ab", "c"),
    (
        ((1, (("x", 0), (1, "y"))), None),
        (None, (0, ((), (0, "z", 1)))),
    ),
    ((0, "w"), None),
)

DEEP = ()
for _ in range(39):
    DEEP = (DEEP,)

# Values of every kind, right and wrong ones; the tests tell which of them are right at a place.
ODD = (
    0, 1, 2, 3, 12, -1, 10 ** 79, True, False, None, "", "a", "A", "1", " ", "a b", "\n", "a\n", "\u00e9", "-",
    (), (0,), (1,), (None,), (True,), ("",), ("A",), ("a", "b"), (0, 0), (-1,), (2,), ((),), ((), ()), (0, ()),
    (0, ((), ())), (((), ()), 0), ((), 0), DEEP, [], [0], ["a"], [None], [()], {}, {0: 1}, {"a": "b"}, ({}, []), ({"a": 1},),
)


def writer_of(states=1, kinds=1, buffers=1, letters=0):
    """A writer that keeps its buffers, with so many letters at each place."""
    text = "m" * letters
    fills = tuple((k,) for k in range(buffers))
    if letters:
        fills = (("m" * (letters - buffers + 1), 0),) + tuple((k, "m") for k in range(1, buffers))
    end = (text, 0) if letters else (0,)
    row = tuple((k % states, fills) for k in range(kinds))
    return ((text,) * buffers, (row,) * states, (end,) * states)


def fault_of(value):
    """The part of InvalidWriter, or "fine" if the very value was returned."""
    try:
        found = require_writer(value)
    except InvalidWriter as error:
        return error.part
    return "fine" if found is value else "another value"


def replaced(value, path, new):
    if not path:
        return new
    at = path[0]
    return value[:at] + (replaced(value[at], path[1:], new),) + value[at + 1:]


def at_path(value, path):
    for at in path:
        value = value[at]
    return value


def tuple_paths(value, path=()):
    if isinstance(value, tuple):
        yield path
        for at, part in enumerate(value):
            yield from tuple_paths(part, path + (at,))


def part_at(path):
    """The part that tells of a fault below this path of a writer, but for its frame."""
    if len(path) < 2:
        return None
    return (("begins",), ("state", path[1]), ("end", path[1]))[path[0]]


class RightWritersTest(unittest.TestCase):
    def test_every_number_of_states_kinds_and_buffers(self):
        for states in range(1, 13):
            for kinds in range(1, 5):
                for buffers in range(1, 4):
                    for letters in (0, 5, 240):
                        with self.subTest(states=states, kinds=kinds, buffers=buffers, letters=letters):
                            self.assertEqual(fault_of(writer_of(states, kinds, buffers, letters)), "fine")

    def test_empty_things_and_all_letters(self):
        alphabet = "abcdefghijklmnopqrstuvwxyz"
        for writer in (
            BASE,
            (("",), ((None,),), (None,)),
            (("", "", ""), ((None, None, None, None),), ((),)),
            (("",), (((0, ((),)),),), ((),)),
            ((alphabet,), (((0, ((alphabet, 0, alphabet),)),),), ((alphabet, 0, "z"),)),
            (("a", "b", "c"), (((0, ((2, 0, 1), (), ())),),), ((1, "a", 0, "b", 2),)),
            (("a", "b", "c"), (((0, ((1,), (2,), (0,))),),), (("a",),)),
        ):
            with self.subTest(writer=writer):
                self.assertEqual(fault_of(writer), "fine")

    def test_the_same_buffer_at_two_places_and_pieces_beside_buffers(self):
        writer = (("", ""), (((0, (("a", 0, "b", 1, "c"), ())), (0, ((0,), (1,)))),), (("a", 0, "b", 1, "c"),))
        self.assertEqual(fault_of(writer), "fine")

    def test_by_name(self):
        self.assertIs(require_writer(value=BASE), BASE)
        with self.assertRaises(InvalidWriter):
            require_writer(value=None)


class LettersTest(unittest.TestCase):
    def test_begins(self):
        for many, part in ((239, "fine"), (240, "fine"), (241, ("begins",)), (100000, ("begins",))):
            self.assertEqual(fault_of(replaced(BASE, (0, 1), "q" * many)), part)
        self.assertEqual(fault_of(replaced(BASE, (0,), ("q" * 240, "q" * 240))), "fine")

    def test_one_piece(self):
        for many, part in ((240, "fine"), (241, ("state", 1))):
            self.assertEqual(fault_of(replaced(BASE, (1, 1, 1, 1), (("q" * many,), ()))), part)

    def test_pieces_of_one_fill_together(self):
        for many, part in ((140, "fine"), (141, ("state", 1))):
            self.assertEqual(fault_of(replaced(BASE, (1, 1, 1, 1), (("q" * 100, 1, "q" * many), ()))), part)

    def test_pieces_of_several_fills_together(self):
        for many, part in ((40, "fine"), (41, ("state", 0))):
            fills = (("q" * 100, 1, "q" * 50), ("q" * 50, 0, "q" * many))
            self.assertEqual(fault_of(replaced(BASE, (1, 0, 0, 1), fills)), part)

    def test_entries_are_counted_one_by_one(self):
        entry = (0, (("q" * 240,), ()))
        self.assertEqual(fault_of(replaced(BASE, (1,), ((entry, entry), (entry, entry)))), "fine")

    def test_ends(self):
        for many, part in ((140, "fine"), (141, ("end", 1))):
            self.assertEqual(fault_of(replaced(BASE, (2, 1), ("q" * 100, 1, "q" * many))), part)
        for many, part in ((240, "fine"), (241, ("end", 0))):
            self.assertEqual(fault_of(replaced(BASE, (2,), (("q" * many,), ("q" * 240,)))), part)


class WrongWritersTest(unittest.TestCase):
    def test_no_triple(self):
        for value in ((), BASE[:1], BASE[:2], BASE + ((),), BASE + BASE, list(BASE), BASE[0], "abc", {0: 1, 1: 2, 2: 3}):
            self.assertIsNone(fault_of(value))

    def test_numbers_of_states(self):
        self.assertIsNone(fault_of(writer_of(states=13)))
        self.assertIsNone(fault_of((("",), (), ())))

    def test_other_numbers_of_ends(self):
        for ends in ((), (None,), (None, None, None)):
            self.assertIsNone(fault_of(replaced(BASE, (2,), ends)))

    def test_numbers_of_kinds(self):
        self.assertEqual(fault_of(writer_of(kinds=5)), ("state", 0))
        self.assertEqual(fault_of(writer_of(kinds=0)), ("state", 0))
        self.assertEqual(fault_of(writer_of(states=12, kinds=5)), ("state", 0))

    def test_numbers_of_buffers(self):
        self.assertEqual(fault_of(writer_of(buffers=4)), ("begins",))
        self.assertEqual(fault_of(((), (((0, ()),),), ((),))), ("begins",))

    def test_other_numbers_of_fills(self):
        for fills in ((), ((0,),), ((0,), (1,), ())):
            self.assertEqual(fault_of(replaced(BASE, (1, 1, 1, 1), fills)), ("state", 1))

    def test_rows_of_unlike_lengths(self):
        for lengths, p in (((2, 1), 1), ((2, 3), 1), ((1, 1, 2), 2), ((3, 3, 3, 0, 3), 3), ((4, 4, 5), 2), ((5, 4), 0)):
            rows = tuple((None,) * many for many in lengths)
            self.assertEqual(fault_of((("",), rows, (None,) * len(rows))), ("state", p))

    def test_no_entry_of_two_parts(self):
        for entry in ((), (0,), (0, ((), ()), 0), (((), ()), 0)):
            self.assertEqual(fault_of(replaced(BASE, (1, 1, 0), entry)), ("state", 1))

    def test_next_states(self):
        for target in (2, 3, 12, -1, -2, True, False, None, "0", (0,)):
            self.assertEqual(fault_of(replaced(BASE, (1, 0, 0, 0), target)), ("state", 0))
        for target in range(12):
            self.assertEqual(fault_of((("",), ((None,),) * 11 + (((target, ((),)),),), (None,) * 12)), "fine")

    def test_buffers_that_there_are_not(self):
        for buffer in (2, 3, -1, -2, True, False, None, (0,), 10 ** 79):
            self.assertEqual(fault_of(replaced(BASE, (1, 1, 1, 1), ((buffer,), ()))), ("state", 1))
            self.assertEqual(fault_of(replaced(BASE, (2, 1), (buffer,))), ("end", 1))
        self.assertEqual(fault_of((("", "", ""), ((None,),), ((2,),))), "fine")
        self.assertEqual(fault_of((("", "", ""), ((None,),), ((3,),))), ("end", 0))

    def test_a_buffer_twice(self):
        for fills in (((0, 0), ()), ((0, "a", 0), ()), ((0,), (0,)), (("a", 1), (1, "a")), ((0, 1), (1,)), ((), (1, 1))):
            self.assertEqual(fault_of(replaced(BASE, (1, 1, 1, 1), fills)), ("state", 1))
        for end in ((0, 0), (1, "a", 1), (0, 1, 0)):
            self.assertEqual(fault_of(replaced(BASE, (2, 1), end)), ("end", 1))

    def test_pieces(self):
        # The signs `{ stand just before a and just behind z.
        for piece in ("", "A", "Z", "aBc", "`", "{", "a`", "{z", "\u00e9", "a\u00df", "0", " ", "a ", "a\n", "-"):
            self.assertEqual(fault_of(replaced(BASE, (1, 0, 0, 1), ((0, piece), ()))), ("state", 0))
            self.assertEqual(fault_of(replaced(BASE, (2, 0), (piece, 0))), ("end", 0))
            if piece:
                self.assertEqual(fault_of(replaced(BASE, (0, 0), piece)), ("begins",))

    def test_two_pieces_side_by_side(self):
        for recipe in (("a", "b"), ("a", "b", 0), (0, "a", "b"), ("a", 0, "b", "c"), ("a", "b", "c")):
            self.assertEqual(fault_of(replaced(BASE, (1, 0, 0, 1), ((), recipe))), ("state", 0))
            self.assertEqual(fault_of(replaced(BASE, (2, 0), recipe)), ("end", 0))

    def test_lists_in_the_place_of_tuples(self):
        for path in tuple_paths(BASE):
            with self.subTest(path=path):
                self.assertEqual(fault_of(replaced(BASE, path, list(at_path(BASE, path)))), part_at(path))

    def test_many_parts(self):
        self.assertEqual(fault_of(replaced(BASE, (2, 0), (0,) * 100000)), ("end", 0))
        self.assertEqual(fault_of(replaced(BASE, (1, 1), ("a",) * 100000)), ("state", 1))
        self.assertEqual(fault_of(replaced(BASE, (0,), ("a",) * 100000)), ("begins",))


class OddValuesTest(unittest.TestCase):
    """Every value of ODD at every depth of BASE."""

    def check(self, path, right=()):
        for value in ODD:
            # True == 1 in Python: what is written alike is the same value here.
            wanted = "fine" if repr(value) in [repr(other) for other in right] else part_at(path)
            with self.subTest(path=path, value=value):
                self.assertEqual(fault_of(replaced(BASE, path, value)), wanted)

    def test_the_whole(self):
        self.check(())

    def test_the_begins(self):
        for value in ODD:
            wanted = ("begins",) if isinstance(value, tuple) else None
            # One begin is right by itself, but then the fills of row 0 are too many.
            wanted = {"('a', 'b')": "fine", "('',)": ("state", 0)}.get(repr(value), wanted)
            with self.subTest(value=value):
                self.assertEqual(fault_of(replaced(BASE, (0,), value)), wanted)

    def test_the_rules(self):
        for value in ODD:
            wanted = ("state", 0) if isinstance(value, tuple) and len(value) == 2 else None
            with self.subTest(value=value):
                self.assertEqual(fault_of(replaced(BASE, (1,), value)), wanted)

    def test_the_ends(self):
        for value in ODD:
            wanted = ("end", 0) if isinstance(value, tuple) and len(value) == 2 else None
            # Two ends that are right, or of which just the second one is wrong.
            wanted = {"((), ())": "fine", "((), 0)": ("end", 1)}.get(repr(value), wanted)
            with self.subTest(value=value):
                self.assertEqual(fault_of(replaced(BASE, (2,), value)), wanted)

    def test_a_begin(self):
        self.check((0, 0), ("", "a"))

    def test_rows_and_entries(self):
        self.check((1, 1))
        for value in ODD:
            # A row of one kind is right by itself, but then row 1 is of another length.
            wanted = ("state", 1) if value == (None,) else ("state", 0)
            with self.subTest(value=value):
                self.assertEqual(fault_of(replaced(BASE, (1, 0), value)), wanted)
        for path in ((1, 0, 0), (1, 0, 1), (1, 1, 0)):
            self.check(path, (None, (0, ((), ()))))

    def test_parts_of_entries(self):
        self.check((1, 1, 1, 0), (0, 1))
        self.check((1, 0, 0, 1), (((), ()),))
        self.check((1, 1, 1, 1, 0), ((),))
        self.check((1, 0, 0, 1, 0), ((), (0,)))

    def test_parts_of_recipes(self):
        self.check((1, 0, 0, 1, 0, 0), ("a",))
        self.check((1, 0, 0, 1, 1, 0), (1,))
        self.check((2, 0, 0), (0, 1))

    def test_ends(self):
        self.check((2, 0), (None, (), (0,), (1,)))
        self.check((2, 1), (None, (), (0,), (1,)))
        self.check((2, 0, 1), (1, "a"))


class OrderTest(unittest.TestCase):
    """If several parts are wrong, the one that is listed first is told."""

    def test_the_frame_first(self):
        self.assertIsNone(fault_of((("A",), ((0,),), ())))
        self.assertIsNone(fault_of((("A",), ((0,),), [None])))
        self.assertIsNone(fault_of((("A",), ((0,),) * 13, (0,) * 13)))

    def test_begins_before_states_and_ends(self):
        self.assertEqual(fault_of((("A",), ((0,),), (0,))), ("begins",))
        self.assertEqual(fault_of((("a", "A"), ((None,),), (0,))), ("begins",))
        self.assertEqual(fault_of(((), ((0,),), (0,))), ("begins",))

    def test_all_states_before_ends(self):
        self.assertEqual(fault_of((("a",), ((None,), (None,), (0,)), (0, None, None))), ("state", 2))
        self.assertEqual(fault_of((("a",), ((None,), (0,), (0,)), (0, 0, 0))), ("state", 1))

    def test_the_first_end(self):
        self.assertEqual(fault_of((("a",), ((None,),) * 12, (None,) * 11 + (0,))), ("end", 11))
        self.assertEqual(fault_of((("a",), ((None,),) * 3, (None, 0, 0))), ("end", 1))

    def test_a_bad_end_is_no_fault_of_its_state(self):
        self.assertEqual(fault_of(replaced(BASE, (2, 0), (5,))), ("end", 0))


class SmallTest(unittest.TestCase):
    def test_states(self):
        self.assertIs(is_small(writer_of(states=4, kinds=3, buffers=2, letters=24)), True)
        self.assertIs(is_small(writer_of(states=5)), False)
        self.assertIs(is_small(writer_of(states=12)), False)

    def test_kinds(self):
        self.assertIs(is_small(writer_of(kinds=3)), True)
        self.assertIs(is_small(writer_of(kinds=4)), False)

    def test_buffers(self):
        self.assertIs(is_small(writer_of(buffers=2)), True)
        self.assertIs(is_small(writer_of(buffers=3)), False)

    def test_letters_at_a_begin(self):
        self.assertIs(is_small(replaced(BASE, (0, 1), "q" * 24)), True)
        self.assertIs(is_small(replaced(BASE, (0, 1), "q" * 25)), False)
        self.assertIs(is_small(replaced(BASE, (0, 0), "q" * 25)), False)
        self.assertIs(is_small(replaced(BASE, (0,), ("q" * 24, "q" * 24))), True)

    def test_letters_of_an_entry_together(self):
        for path in ((1, 0, 0, 1), (1, 1, 1, 1)):
            for fills in ((("q" * 24,), ()), (("q" * 10, 0), ("q" * 10, 1, "q" * 4)), (("q" * 20, 0, "q" * 4), ())):
                self.assertIs(is_small(replaced(BASE, path, fills)), True)
            for fills in (((), ("q" * 25,)), (("q" * 10, 0), ("q" * 10, 1, "q" * 5)), (("q" * 20, 0, "q" * 5), ())):
                self.assertIs(is_small(replaced(BASE, path, fills)), False)

    def test_letters_of_an_end_together(self):
        for end in (("q" * 24,), ("q" * 8, 0, "q" * 8, 1, "q" * 8)):
            self.assertIs(is_small(replaced(BASE, (2, 0), end)), True)
            self.assertIs(is_small(replaced(BASE, (2, 1), end)), True)
        for end in (("q" * 25,), ("q" * 8, 0, "q" * 8, 1, "q" * 9)):
            self.assertIs(is_small(replaced(BASE, (2, 0), end)), False)
            self.assertIs(is_small(replaced(BASE, (2, 1), end)), False)

    def test_nothing_but_none(self):
        self.assertIs(is_small((("",), ((None,),), (None,))), True)

    def test_by_name(self):
        self.assertIs(is_small(writer=BASE), True)


class JoinedTest(unittest.TestCase):
    def test_no_recipe_and_empty_recipes(self):
        self.assertEqual(joined(), ())
        self.assertEqual(joined(()), ())
        self.assertEqual(joined((), (), ()), ())

    def test_one_recipe(self):
        for recipe in (("a",), (0,), ("ab", 1, "c", 0), (2, 0, 1)):
            self.assertEqual(joined(recipe), recipe)
            self.assertEqual(joined((), recipe, ()), recipe)

    def test_several_recipes(self):
        self.assertEqual(joined((0,), (1,)), (0, 1))
        self.assertEqual(joined((1, "a"), (0,)), (1, "a", 0))
        self.assertEqual(joined((1,), ("a", 0)), (1, "a", 0))
        self.assertEqual(joined((2, "a"), (0, "b"), (1,)), (2, "a", 0, "b", 1))

    def test_pieces_that_come_to_stand_side_by_side(self):
        self.assertEqual(joined(("a",), ("b",)), ("ab",))
        self.assertEqual(joined((0, "ab"), ("cd", 1)), (0, "abcd", 1))
        self.assertEqual(joined(("a",), ("b",), ("c",)), ("abc",))
        self.assertEqual(joined((0, "a"), ("b",), ("c", 1, "d"), ("e",)), (0, "abc", 1, "de"))

    def test_empty_recipes_between(self):
        self.assertEqual(joined(("a",), (), ("b",)), ("ab",))
        self.assertEqual(joined((0, "a"), (), (), ("b",), (), ("c", 1)), (0, "abc", 1))

    def test_what_it_returns_is_a_tuple_of_right_parts(self):
        found = joined((2, "ab"), ("c", 0))
        self.assertIsInstance(found, tuple)
        self.assertEqual([part.__class__ for part in found], [int, str, int])

    def test_arguments_are_not_modified(self):
        first, second = (0, "a"), ("b", 1)
        joined(first, second)
        self.assertEqual((first, second), ((0, "a"), ("b", 1)))


if __name__ == "__main__":
    unittest.main()
