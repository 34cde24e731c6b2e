import copy
import inspect
import unittest

from cases import STRANGE, word_of
from fewtests.errors import InvalidWriter, KindsDiffer, LimitExceeded, UnknownEntry
from fewtests.parting import alike, within
from fewtests.pens import Writer
from fewtests.runs import behind, text_for
from fewtests.writers import require_writer
from judge import recipe_from, with_mark
from reference import Maker, ONE, THREE, TWO, doubled, exchanged, words_up_to

ONES, TWOS = Writer(ONE), Writer(TWO)
SOME = (
    ("ab", "c"),
    (((1, ((0, "x", 1), ("y",))), (0, ((1,), (0, "ba")))), (None, (0, (("z", 0), (1,)))), (None, (2, ((0,), ())))),
    (("a", 0, "bc"), None, (1,)),
)


def letter_texts():
    return tuple("abcdefghijklmnopqrstuvwxyz")


def states_in_order(start, move, kinds):
    found = [start]
    for state in found:
        for kind in range(kinds):
            later = move(state, kind)
            if later is not None and later not in found:
                found.append(later)
    return found


def shifted(recipe, many):
    return tuple(part if isinstance(part, str) else part + many for part in recipe)


def put_together(first, second, either):
    """first + second and first | second, to the sign, by the document's words."""
    many = len(first[0])
    kinds = len(first[1][0])

    def entries(pair, kind):
        one = None if pair[0] is None else first[1][pair[0]][kind]
        two = None if pair[1] is None else second[1][pair[1]][kind]
        return one, two

    def move(pair, kind):
        one, two = entries(pair, kind)
        if (one is None and two is None) or (not either and None in (one, two)):
            return None
        return (one and one[0], two and two[0])

    pairs = states_in_order((0, 0), move, kinds)
    rows = []
    for pair in pairs:
        row = []
        for kind in range(kinds):
            later = move(pair, kind)
            one, two = entries(pair, kind)
            fills = (one[1] if one else ((),) * many) + (
                tuple(shifted(recipe, many) for recipe in two[1]) if two else ((),) * len(second[0])
            )
            row.append(None if later is None else (pairs.index(later), fills))
        rows.append(tuple(row))
    ends = []
    for p, q in pairs:
        one = None if p is None else first[2][p]
        two = None if q is None else second[2][q]
        two = None if two is None else shifted(two, many)
        if either:
            ends.append(two if one is None else one)
        else:
            ends.append(None if None in (one, two) else recipe_of(one + two))
    return (first[0] + second[0], tuple(rows), tuple(ends))


def recipe_of(parts):
    return recipe_from("".join(part if isinstance(part, str) else str(part) for part in parts))


def ring(states, letters="a"):
    """Its states come one after the other; each kind puts the letters behind."""
    rows = tuple((((state + 1) % states, ((0, letters),)),) for state in range(states))
    return (("",), rows, ((0,),) * states)


class WriterTest(unittest.TestCase):
    def test_example(self):
        self.assertEqual(
            (ONES == TWOS, (ONES + "z")((0,)), (~TWOS)((0,)), (ONES << (0,)).value[0], ONES[0, 0], (0,) in ONES),
            (True, "abaz", "aba", ("ab",), (0, ((0, "ab"),)), True),
        )

    def test_values(self):
        self.assertEqual(ONES.value, ONE)
        self.assertEqual(Writer(value=SOME).value, SOME)
        self.assertIsInstance(ONES + TWOS, Writer)

    def test_values_that_are_none(self):
        for value in STRANGE:
            with self.assertRaises(InvalidWriter) as caught:
                Writer(value)
            self.assertIsInstance(caught.exception.part, (type(None), tuple))
        for value, part in (
            (((), ((None,),), (None,)), ("begins",)),
            ((("",), ((None,), (None, None)), (None, None)), ("state", 1)),
            ((("",), ((None,), (None,)), (None, (1,))), ("end", 1)),
        ):
            with self.assertRaises(InvalidWriter) as caught:
                Writer(value)
            self.assertEqual(caught.exception.part, part)

    def test_texts_of_words(self):
        some = Writer(SOME)
        for word in words_up_to(2, 5):
            self.assertEqual(some(word), text_for(SOME, word))
        self.assertEqual(some(word=(0,)), text_for(SOME, (0,)))
        self.assertIsNone(some((0, 0)))

    def test_in(self):
        some = Writer(SOME)
        for word in words_up_to(2, 5):
            self.assertIs(word in some, text_for(SOME, word) is not None)
        for value in STRANGE:
            self.assertIs(value in some, value in ((), (0, 0)) and text_for(SOME, value) is not None, value)
        for value in ([0], (False,), (2,), (-1,), (None,), ((0,),), "0", ("0",), (1, True), {0: 1}, 0):
            self.assertIs(value in some, False, value)
        self.assertIs((0,) * 100000 in ONES, True)
        self.assertIs((0,) * 100000 in some, False)
        self.assertIs((1,) * 99999 + (0, 1) in some, True)
        self.assertIs((1,) * 99999 + (0,) in some, False)

    def test_len_and_bool(self):
        self.assertEqual((len(ONES), len(Writer(SOME)), len(Writer(ring(12)))), (1, 3, 12))
        self.assertIs(bool(ONES), True)
        self.assertIs(bool(Writer(SOME)), True)
        self.assertIs(bool(Writer((("",), ((None,),), (None,)))), False)
        self.assertIs(bool(Writer((("",), ((None,),), ((),)))), True)
        # No word leads to the state with the end.
        self.assertIs(bool(Writer((("",), (((0, ((0,),)),), ((0, ((0,),)),)), (None, (0,))))), False)
        far = ring(12)
        self.assertIs(bool(Writer((far[0], far[1], (None,) * 11 + ((0,),)))), True)

    def test_entries(self):
        some = Writer(SOME)
        for state in range(3):
            for kind in range(2):
                self.assertEqual(some[state, kind], SOME[1][state][kind])
        self.assertIsNone(some[1, 0])
        for value in (3, -1, True, None, "0", (0,), [0], {}, 10 ** 60):
            for at, wrong in (((value, 0), value), ((value, value), value), ((value, 7), value), ((1, value), value)):
                if at == (1, value) and value == 3:
                    continue
                with self.assertRaises(UnknownEntry) as caught:
                    some[at]
                self.assertEqual(caught.exception.index, wrong)
                self.assertIs(type(caught.exception.index), type(wrong))
        with self.assertRaises(UnknownEntry) as caught:
            some[2, 2]
        self.assertEqual(caught.exception.index, 2)

    def test_equal(self):
        self.assertIs(ONES == TWOS, True)
        self.assertIs(ONES != TWOS, False)
        self.assertIs(ONES == Writer(THREE), False)
        self.assertIs(ONES != Writer(THREE), True)
        for value in STRANGE + (ONE, TWO):
            self.assertIs(ONES == value, False)
            self.assertIs(ONES != value, True)
        self.assertIs(ONES == Writer.constant("a", kinds=2), False)
        self.assertIs(Writer(((("",), ((None,),), (None,)))) == Writer((("",), ((None, None),), (None,))), False)
        maker = Maker(81)
        for _ in range(60):
            first, second = maker.pair()
            self.assertIs(Writer(first) == Writer(second), alike(first, second))
            self.assertIs(Writer(first) == Writer(doubled(exchanged(first))), True)

    def test_is_within(self):
        self.assertIs(ONES.is_within(TWOS), True)
        self.assertIs(ONES.is_within(other=Writer(THREE)), False)
        fewer = Writer((ONE[0], ONE[1], (None,)))
        self.assertIs(fewer.is_within(ONES), True)
        self.assertIs(ONES.is_within(fewer), False)
        with self.assertRaises(KindsDiffer):
            ONES.is_within(Writer.constant("a", kinds=2))
        maker = Maker(82)
        for _ in range(40):
            first, second = maker.pair()
            self.assertIs(Writer(first).is_within(Writer(second)), within(first, second))

    def test_methods_stand_in_the_class(self):
        for name in (
            "__init__", "__call__", "__contains__", "__len__", "__bool__", "__getitem__", "__eq__", "__add__", "__or__",
            "__radd__", "__invert__", "__lshift__", "__rshift__", "constant", "spelled", "led", "is_within",
        ):
            self.assertIn(name, vars(Writer))
        self.assertEqual(list(inspect.signature(Writer).parameters), ["value"])
        self.assertEqual(list(inspect.signature(Writer.constant).parameters), ["text", "kinds"])
        self.assertIs(inspect.signature(Writer.constant).parameters["kinds"].kind, inspect.Parameter.KEYWORD_ONLY)
        self.assertEqual(list(inspect.signature(ONES.spelled).parameters), ["texts"])
        self.assertEqual(list(inspect.signature(ONES.led).parameters), ["words"])


class TogetherTest(unittest.TestCase):
    def test_to_the_sign(self):
        maker = Maker(83)
        seen = {}
        for _ in range(200):
            first, second = maker.pair()
            for either in (False, True):
                known = put_together(first, second, either)
                limit = 12 if len(known[1]) > 12 else 3 if len(known[0]) > 3 else None
                seen[limit] = seen.get(limit, 0) + 1
                if limit is None:
                    found = Writer(first) | Writer(second) if either else Writer(first) + Writer(second)
                    self.assertEqual(found.value, known)
                else:
                    with self.assertRaises(LimitExceeded) as caught:
                        Writer(first) | Writer(second) if either else Writer(first) + Writer(second)
                    self.assertEqual(caught.exception.limit, limit)
        self.assertGreater(seen[None], 50)

    def test_word_by_word(self):
        maker = Maker(84)
        for _ in range(80):
            first, second = maker.pair()
            if len(first[0]) + len(second[0]) > 3:
                continue
            one, two = Writer(first), Writer(second)
            try:
                both, either = one + two, one | two
            except LimitExceeded:
                continue
            for word in words_up_to(len(first[1][0]), 4):
                texts = (one(word), two(word))
                self.assertEqual(both(word), None if None in texts else texts[0] + texts[1])
                self.assertEqual(either(word), texts[1] if texts[0] is None else texts[0])

    def test_one_has_refused_and_the_other_goes_on(self):
        short = (("s",), (((1, ((0, "a"),)),), (None,)), ((0,), ("q", 0)))
        found = Writer(short) | ONES
        self.assertEqual(
            found.value,
            (
                ("s", ""),
                (
                    ((1, ((0, "a"), (1, "ab"))),),
                    ((2, ((), (1, "ab"))),),
                    ((2, ((), (1, "ab"))),),
                ),
                ((0,), ("q", 0), (1, "a")),
            ),
        )
        self.assertEqual([found((0,) * many) for many in range(4)], ["s", "qsa", "ababa", "abababa"])
        found = ONES | Writer(short)
        self.assertEqual([row[0][1][1] for row in found.value[1]], [(1, "a"), (), ()])
        self.assertEqual([found((0,) * many) for many in range(4)], [ONES((0,) * many) for many in range(4)])
        # Both refuse in the end.
        found = Writer(short) | Writer((("t",), (((1, ((0, "b"),)),), ((2, ((0,),)),), (None,)), (None, None, (0,))))
        self.assertEqual([found((0,) * many) for many in range(4)], ["s", "qsa", "tb", None])
        self.assertEqual(len(found), 3)
        self.assertIsNone(found[2, 0])

    def test_kinds_differ_comes_first(self):
        big = Writer(((("",) * 3), (((0, ((), (), ())),) * 2,), (None,)))
        for act in (lambda: big + ONES, lambda: ONES | big):
            with self.assertRaises(KindsDiffer):
                act()

    def test_limits(self):
        def limit_of(act):
            with self.assertRaises(LimitExceeded) as caught:
                act()
            return caught.exception.limit

        def rings(one, two):
            return Writer(ring(one)), Writer(ring(two))

        first, second = rings(3, 4)
        self.assertEqual((len(first + second), len(first | second)), (12, 12))
        first, second = rings(4, 6)
        self.assertEqual((len(first + second), len(first | second)), (12, 12))
        for one, two in ((12, 11), (5, 3)):
            first, second = rings(one, two)
            self.assertEqual((limit_of(lambda: first + second), limit_of(lambda: first | second)), (12, 12))
        # One state more than there may be, when the first one has refused.
        loop = Writer(ring(1))
        rows = ring(12)[1]
        for many, limit in ((11, None), (12, 12)):
            chain = Writer((("",), rows[:many - 1] + ((None,),), ((0,),) * many))
            self.assertEqual(len(chain + loop), many)
            if limit is None:
                self.assertEqual((len(chain | loop), len(loop | chain)), (12, 12))
            else:
                self.assertEqual((limit_of(lambda: chain | loop), limit_of(lambda: loop | chain)), (12, 12))
        three = Writer((("", "", ""), (((0, ((0,), (1,), (2,))),),), ((0,),)))
        two = Writer((("", ""), (((0, ((0,), (1,))),),), ((0,),)))
        self.assertEqual(len((two + ONES).value[0]), 3)
        self.assertEqual(limit_of(lambda: three + ONES), 3)
        self.assertEqual(limit_of(lambda: two | two), 3)
        # States come before buffers, and these before letters.
        states = Writer((("", "", ""),) + (tuple((((k + 1) % 5, ((0,), (1,), (2,))),) for k in range(5)), ((0,),) * 5))
        self.assertEqual(limit_of(lambda: states + Writer(ring(3, "a" * 240))), 12)
        self.assertEqual(limit_of(lambda: three + Writer(ring(3, "a" * 240))), 3)
        long = Writer((("",), (((0, (("a" * 121, 0),)),),), ((0,),)))
        less = Writer((("",), (((0, (("a" * 119, 0),)),),), ((0,),)))
        more = Writer((("",), (((0, (("a" * 120, 0),)),),), ((0,),)))
        self.assertEqual((long + less)[0, 0], (0, (("a" * 121, 0), ("a" * 119, 1))))
        self.assertEqual((long | less)[0, 0], (0, (("a" * 121, 0), ("a" * 119, 1))))
        self.assertEqual((limit_of(lambda: long + more), limit_of(lambda: more | long)), (240, 240))
        self.assertEqual(limit_of(lambda: long + long), 240)
        self.assertEqual(limit_of(lambda: long | long), 240)
        ends = Writer((("",), ((None,),), ((0, "a" * 121),)))
        self.assertEqual(limit_of(lambda: ends + ends), 240)
        self.assertEqual((ends + (Writer((("",), ((None,),), ((0, "a" * 119),))))).value[2][0][3], "a" * 119)
        self.assertEqual((ends | ends).value[2], ((0, "a" * 121),))


class FramedTest(unittest.TestCase):
    def test_texts_ahead_and_behind(self):
        some = Writer(SOME)
        self.assertEqual(("q" + some).value, (SOME[0], SOME[1], (("qa", 0, "bc"), None, ("q", 1))))
        self.assertEqual((some + "q").value, (SOME[0], SOME[1], (("a", 0, "bcq"), None, (1, "q"))))
        self.assertEqual(("" + some).value, SOME)
        self.assertEqual((some + "").value, SOME)
        empty = Writer((("",), ((None,),), ((),)))
        self.assertEqual((empty + "ab").value[2], (("ab",),))
        self.assertEqual(("ab" + empty).value[2], (("ab",),))
        self.assertEqual((empty + "").value[2], ((),))
        for word in words_up_to(2, 4):
            text = some(word)
            self.assertEqual(("pq" + some + "xy")(word), None if text is None else "pq" + text + "xy")

    def test_limits(self):
        some = Writer(SOME)
        self.assertEqual(some + "a" * 237, Writer((SOME[0], SOME[1], (("a", 0, "bc" + "a" * 237), None, (1, "a" * 237)))))
        for act in (lambda: some + "a" * 238, lambda: "a" * 238 + some):
            with self.assertRaises(LimitExceeded) as caught:
                act()
            self.assertEqual(caught.exception.limit, 240)
        # Also where no word leads.
        spare = Writer((("",), ((None,), (None,)), ((0,), ("a",))))
        self.assertEqual(len(("a" * 239 + spare).value[2][1][0]), 240)
        with self.assertRaises(LimitExceeded):
            "a" * 240 + spare
        silent = Writer((("",), ((None,),), (None,)))
        self.assertEqual((silent + "a" * 240).value, silent.value)


class TurnedTest(unittest.TestCase):
    def test_all_is_turned(self):
        self.assertEqual(
            (~Writer(SOME)).value,
            (
                ("ba", "c"),
                (
                    ((1, ((1, "x", 0), ("y",))), (0, ((1,), ("ab", 0)))),
                    (None, (0, ((0, "z"), (1,)))),
                    (None, (2, ((0,), ()))),
                ),
                (("cb", 0, "a"), None, (1,)),
            ),
        )

    def test_word_by_word(self):
        maker = Maker(85)
        for _ in range(60):
            writer = Writer(maker.writer())
            self.assertEqual((~~writer).value, writer.value)
            for word in words_up_to(len(writer.value[1][0]), 4):
                text = writer(word)
                self.assertEqual((~writer)(word), None if text is None else text[::-1])


class ShiftedTest(unittest.TestCase):
    def test_begun_behind_a_word(self):
        some = Writer(SOME)
        found = some << (0,)
        self.assertEqual(
            found.value,
            (
                ("abxc", "y"),
                ((None, (1, (("z", 0), (1,)))), ((0, ((0, "x", 1), ("y",))), (1, ((1,), (0, "ba"))))),
                (None, ("a", 0, "bc")),
            ),
        )
        self.assertEqual((some << ()).value, (SOME[0], SOME[1][:2], SOME[2][:2]))
        self.assertEqual((ONES << (0, 0)).value, (("abab",), ONE[1], ONE[2]))

    def test_states_are_numbered_in_the_order_of_their_first_words(self):
        def entry(state, piece):
            return state, ((0, piece),)

        rows = (
            (entry(3, "a"), None),
            (entry(1, "b"), entry(0, "c")),
            (None, None),
            (entry(4, "d"), entry(1, "e")),
            (entry(3, "f"), entry(1, "g")),
        )
        some = Writer((("",), rows, (("p",), ("q",), ("r",), None, ("t",))))
        # The states of before are now, in order: 3, 4, 1, 0.
        now = (
            (entry(1, "d"), entry(2, "e")),
            (entry(0, "f"), entry(2, "g")),
            (entry(2, "b"), entry(3, "c")),
            (entry(0, "a"), None),
        )
        self.assertEqual((some << (0,)).value, (("a",), now, (None, ("t",), ("q",), ("p",))))

    def test_a_refused_word(self):
        self.assertEqual((Writer(SOME) << (0, 0)).value, (("", ""), ((None, None),), (None,)))
        three = Writer((("a", "b", "c"), ((None, None, None, None),), (None,)))
        self.assertEqual((three << (3,)).value, (("", "", ""), ((None,) * 4,), (None,)))

    def test_word_by_word(self):
        maker = Maker(86)
        for _ in range(100):
            value = maker.writer(states=maker.random.randint(1, 5))
            writer = Writer(value)
            kinds = len(value[1][0])
            word = word_of(maker, kinds, 4)
            left, right = writer << word, writer >> word
            for other in words_up_to(kinds, 3):
                self.assertEqual(left(other), writer(word + other))
                self.assertEqual(right(other), writer(other + word))
            self.assertEqual((right.value[0], right.value[1]), value[:2])
            situation = behind(value, word)
            if situation is not None:
                def move(state, kind):
                    entry = value[1][state][kind]
                    return None if entry is None else entry[0]
                order = states_in_order(situation[0], move, kinds)
                rows = tuple(
                    tuple(None if e is None else (order.index(e[0]), e[1]) for e in value[1][state]) for state in order
                )
                self.assertEqual(left.value, (situation[1], rows, tuple(value[2][state] for state in order)))
            mark = with_mark(value, word)
            for state, end in enumerate(right.value[2]):
                entry = mark[1][state][-1]
                if entry is None or value[2][entry[0]] is None:
                    self.assertIsNone(end)
                else:
                    parts = [part for at in value[2][entry[0]] for part in ([at] if isinstance(at, str) else entry[1][at])]
                    self.assertEqual(end, recipe_of(parts))

    def test_where_the_word_is_not_written(self):
        some = Writer(SOME)
        self.assertEqual((some >> ()).value, SOME)
        self.assertEqual((some >> (0,)).value[2], (None, None, None))
        self.assertEqual((some >> (1,)).value[2], (("a", 1, "bc"), ("az", 0, "bc"), ()))
        self.assertEqual((some >> (0, 1)).value[2], (("az", 0, "x", 1, "bc"), None, None))

    def test_limits(self):
        # Begins of 240 letters, and one more.
        self.assertEqual(len((ONES << (0,) * 60).value[0][0]), 120)
        six = Writer(ring(1, "abcdef"))
        self.assertEqual(len((six << (0,) * 40).value[0][0]), 240)
        with self.assertRaises(LimitExceeded) as caught:
            six << (0,) * 41
        self.assertEqual(caught.exception.limit, 240)
        begun = Writer((("z",), six.value[1], six.value[2]))
        with self.assertRaises(LimitExceeded):
            begun << (0,) * 40
        ended = Writer((("",), six.value[1], (("z", 0),)))
        self.assertEqual(len((ended >> (0,) * 39).value[2][0]), 3)
        with self.assertRaises(LimitExceeded):
            ended >> (0,) * 40
        self.assertEqual((six >> (0,) * 40).value[2], ((0, "abcdef" * 40),))
        with self.assertRaises(LimitExceeded) as caught:
            six >> (0,) * 41
        self.assertEqual(caught.exception.limit, 240)
        # The text is dropped again.
        drop = Writer((("",), (((0, ((0, "a" * 240),)), (0, ((),))),), ((0,),)))
        self.assertEqual((drop << (0,) * 59 + (1,)).value[0], ("",))
        self.assertEqual((drop >> (0,) * 59 + (1,)).value[2], ((),))


class SpelledTest(unittest.TestCase):
    def test_each_letter(self):
        texts = list(letter_texts())
        self.assertEqual(Writer(SOME).spelled(tuple(texts)).value, SOME)
        texts[0], texts[1], texts[23], texts[25] = "zz", "", "", "abcd"
        self.assertEqual(
            Writer(SOME).spelled(texts=tuple(texts)).value,
            (
                ("zz", "c"),
                (
                    ((1, ((0, 1), ("y",))), (0, ((1,), (0, "zz")))),
                    (None, (0, (("abcd", 0), (1,)))),
                    (None, (2, ((0,), ()))),
                ),
                (("zz", 0, "c"), None, (1,)),
            ),
        )
        self.assertEqual(ONES.spelled(("",) * 26).value, (("",), (((0, ((0,),)),),), ((0,),)))

    def test_word_by_word(self):
        maker = Maker(87)
        for _ in range(60):
            writer = Writer(maker.writer())
            texts = tuple(maker.text(4, "abz") for _ in range(26))
            found = writer.spelled(texts)
            require_writer(found.value)
            for word in words_up_to(len(writer.value[1][0]), 3):
                text = writer(word)
                known = None if text is None else "".join(texts[ord(letter) - 97] for letter in text)
                self.assertEqual(found(word), known)

    def test_limits(self):
        texts = ("abcd",) + ("",) * 25
        for place in (("a" * 60,), ((0, "a" * 60),)):
            begins = place if isinstance(place[0], str) else ("",)
            recipe = place[0] if not isinstance(place[0], str) else (0,)
            for value in ((begins, ((None,),), (recipe,)), (begins, (((0, (recipe,)),),), (None,))):
                Writer(value).spelled(texts)
        for value in (
            (("a" * 61,), ((None,),), (None,)),
            (("",), ((None,),), (("a" * 30, 0, "a" * 31),)),
            (("",), (((0, (("a" * 30, 0, "a" * 31),)),),), (None,)),
            (("", ""), (((0, (("a" * 30,), ("a" * 31,))),),), (None,)),
        ):
            with self.assertRaises(LimitExceeded) as caught:
                Writer(value).spelled(texts)
            self.assertEqual(caught.exception.limit, 240)


class LedTest(unittest.TestCase):
    def test_a_kind_for_each_word(self):
        some = Writer(SOME)
        found = some.led(words=((), (0, 1), (1, 1, 0), (0, 0)))
        self.assertEqual((found.value[0], found.value[2]), (SOME[0], SOME[2]))
        self.assertEqual(found[0, 0], (0, ((0,), (1,))))
        self.assertEqual(found[0, 1], (0, (("z", 0, "x", 1), ("y",))))
        self.assertEqual(found[0, 2], (1, ((0, "bax", 1, "ba"), ("y",))))
        self.assertEqual([found[state, 3] for state in range(3)], [None, None, None])
        self.assertEqual(len(found.value[1][0]), 4)
        self.assertEqual(some.led(((0,),)).value[1], tuple(row[:1] for row in SOME[1]))

    def test_word_by_word(self):
        maker = Maker(88)
        for _ in range(60):
            value = maker.writer()
            writer = Writer(value)
            kinds = len(value[1][0])
            words = tuple(word_of(maker, kinds, 4) for _ in range(maker.random.randint(1, 4)))
            found = writer.led(words)
            for state in range(len(value[1])):
                known = tuple(with_mark(value, word)[1][state][-1] for word in words)
                self.assertEqual(found.value[1][state], known)
            for word in words_up_to(len(words), 3):
                self.assertEqual(found(word), writer(sum((words[kind] for kind in word), ())))

    def test_limits(self):
        half = Writer(ring(1, "a" * 60))
        self.assertEqual(half.led(((0,) * 4,))[0, 0], (0, ((0, "a" * 240),)))
        with self.assertRaises(LimitExceeded) as caught:
            Writer(ring(1, "a" * 61)).led(((), (0,) * 4))
        self.assertEqual(caught.exception.limit, 240)


class ConstantTest(unittest.TestCase):
    def test_constant(self):
        self.assertEqual(Writer.constant("ab").value, (("ab",), (((0, ((0,),)),),), ((0,),)))
        self.assertEqual(Writer.constant(text="", kinds=4).value, (("",), (((0, ((0,),)),) * 4,), ((0,),)))
        self.assertEqual(Writer.constant("a" * 240, kinds=3)((0, 1, 2)), "a" * 240)
        self.assertEqual(ONES.constant("b").value, Writer.constant("b").value)


class UnchangedTest(unittest.TestCase):
    def test_nothing_changes(self):
        kept = copy.deepcopy((SOME, ONE))
        some = Writer(SOME)
        texts, words = ("a",) * 26, ((0,), (1, 1))
        for found in (
            some + "a", "a" + some, ~some, some << (0,), some >> (1,), some.spelled(texts), some.led(words),
            ONES + TWOS, ONES | TWOS,
        ):
            require_writer(found.value)
        self.assertEqual((some.value, ONES.value), kept)
        self.assertEqual((texts, words), (("a",) * 26, ((0,), (1, 1))))


if __name__ == "__main__":
    unittest.main()
