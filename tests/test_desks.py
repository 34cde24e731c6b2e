import copy
import inspect
import unittest

from cases import NAMES, STRANGE, claim_of
from fewtests import errors
from fewtests.checker import first_fault
from fewtests.claims import decide
from fewtests.desks import Desk
from fewtests.errors import (
    Barred,
    EditRefused,
    InvalidClaim,
    InvalidCount,
    InvalidEdits,
    InvalidName,
    InvalidWriter,
    LimitExceeded,
    NoOutcome,
    Refused,
    UnknownCheckpoint,
    UnknownEntry,
    UnknownKind,
    UnknownName,
    UnknownPress,
    UnknownRecord,
)
from fewtests.parting import alike
from fewtests.runs import behind
from fewtests.sure import sure_text
from fewtests.writers import is_small, require_writer
from reference import Maker, ONE, THREE, TWO, doubled, exchanged
from refusing import Refusing
from test_claims import CLAIMS

LONE = (("",), (((0, ((0, "a"),)),),), ((0,),))
SILENT = (("",), (((0, ((0, "a"),)),),), (None,))
BIG = (("",), ((None,),) * 5, ((0,),) * 5)
PAIR = (("",), (((0, ((0, "a"),)), (0, (("a", 0),))),), ((0,),))
NUMBERS = (True, False, None, "0", -1, (0,), [0], {}, 10 ** 60, 7)
ONES = (1,) * 26


def state_of(desk):
    """All that the desk tells of itself."""
    presses = {}
    for number in range(40):
        try:
            presses[number] = desk.state_of(number)
        except UnknownPress:
            pass
    records = [desk.recorded(number) for number in range(desk.records())]
    return desk.names(), len(desk), {name: desk[name] for name in desk.names()}, presses, records


def put(desk, name, value):
    desk[name] = value


def names_in(claim):
    return claim[1:3] if claim[0] in ("alike", "within", "first", "tests", "surplus", "endless") else claim[1:2]


class Checking(Refusing):
    def told_by(self, desk):
        return state_of(desk)

    def desk(self, **writers):
        desk = Desk(1)
        for name, writer in writers.items():
            desk[name] = writer
        return desk


class NamesTest(Checking):
    def test_example(self):
        desk = Desk(1)
        desk["one"] = ONE
        desk["two"] = TWO
        number = desk.record(("alike", "one", "two"))
        desk.set_end("two", 0, (0,))
        self.assertEqual(
            (number, desk.standing(number), desk.classes()), (0, ("differ", 0), (("one",), ("two",)))
        )

    def test_counts(self):
        for value in (0, 4, -1, True, False, None, "1", (1,), [1], {}, 10 ** 60):
            with self.assertRaises(InvalidCount) as caught:
                Desk(value)
            self.assertEqual(caught.exception.value, value)
            self.assertIs(type(caught.exception.value), type(value))
        for kinds in (1, 2, 3):
            desk = Desk(kinds=kinds)
            self.assertEqual((len(desk), desk.names(), desk.records(), desk.classes()), (0, (), 0, ()))
            desk["a"] = (("",), ((None,) * kinds,), (None,))
            self.assertEqual(len(desk), 1)

    def test_names(self):
        desk = Desk(1)
        for name in ("a", "abcdefgh", "zz"):
            desk[name] = ONE
            self.assertIs(name in desk, True)
            self.assertEqual(desk[name], ONE)
        self.assertEqual(desk.names(), ("a", "abcdefgh", "zz"))
        self.assertEqual(len(desk), 3)
        for value in ("", "abcdefghi", "A", "a1", "a b", "\u00e4", "a\n", None, 0, True, ("a",), ["a"], {"a": 1}, b"a"):
            self.refused(desk, lambda: put(desk, value, ONE), InvalidName, value=value)
            self.refused(desk, lambda: put(desk, value, None), InvalidName, value=value)
            self.assertIs(value in desk, False)
            self.refused(desk, lambda: desk[value], UnknownName, value=value)
        for value in STRANGE:
            self.assertIs(value in desk, value == "a")
        self.refused(desk, lambda: desk["b"], UnknownName, value="b")

    def test_writers_that_are_none(self):
        desk = self.desk(a=ONE)
        for value in STRANGE:
            self.refused(desk, lambda: put(desk, "a", value), InvalidWriter)
            self.refused(desk, lambda: put(desk, "b", value), InvalidWriter)
        for value, part in (
            (BIG, ("small",)), (PAIR, ("small",)), ((("a" * 25,), ((None,),), (None,)), ("small",)), ((), None),
            ((("",), ((None,), (None, None)), (None, None)), ("state", 1)), ((("A",), ((None,),), (None,)), ("begins",)),
        ):
            self.refused(desk, lambda: put(desk, "b", value), InvalidWriter, part=part)

    def test_six_and_a_seventh(self):
        desk = self.desk(**{name: ONE for name in "abcdef"})
        self.refused(desk, lambda: put(desk, "g", TWO), LimitExceeded, limit=6)
        self.refused(desk, lambda: put(desk, "g", BIG), InvalidWriter, part=("small",))
        self.refused(desk, lambda: put(desk, "", TWO), InvalidName, value="")
        desk["c"] = TWO
        self.assertEqual(desk["c"], TWO)
        self.assertIsNone(desk.drop("f"))
        desk["g"] = TWO
        self.assertEqual(desk.names(), ("a", "b", "c", "d", "e", "g"))

    def test_drop(self):
        desk = self.desk(a=ONE, b=TWO)
        self.refused(desk, lambda: desk.drop("c"), UnknownName, value="c")
        for value in STRANGE:
            if value != "a":
                self.refused(desk, lambda: desk.drop(value), UnknownName, value=value)
        self.assertIsNone(desk.drop(name="a"))
        self.assertEqual((desk.names(), len(desk), "a" in desk), (("b",), 1, False))
        self.refused(desk, lambda: desk.drop("a"), UnknownName, value="a")
        desk["a"] = THREE
        self.assertEqual(desk["a"], THREE)

    def test_methods_stand_in_the_class(self):
        known = {
            "names": [], "drop": ["name"], "set_entry": ["name", "state", "kind", "entry"],
            "set_end": ["name", "state", "recipe"], "set_begin": ["name", "buffer", "text"], "attempt": ["edits"],
            "start": ["name"], "feed": ["number", "kind"], "state_of": ["number"], "stop": ["number"],
            "decide": ["claim"], "record": ["claim"], "records": [], "recorded": ["number"], "standing": ["number"],
            "classes": [], "checkpoint": [], "restore": ["number"],
        }
        for name, arguments in known.items():
            self.assertIn(name, vars(Desk))
            self.assertEqual(list(inspect.signature(getattr(Desk, name)).parameters), ["self"] + arguments)
        for name in ("__init__", "__len__", "__contains__", "__getitem__", "__setitem__"):
            self.assertIn(name, vars(Desk))


class EditsTest(Checking):
    def test_places(self):
        desk = self.desk(a=ONE)
        self.assertIsNone(desk.set_entry("a", 0, 0, (0, ((0, "ba"),))))
        self.assertEqual(desk["a"], (("",), (((0, ((0, "ba"),)),),), ((0, "a"),)))
        self.assertIsNone(desk.set_end(name="a", state=0, recipe=("b", 0)))
        self.assertIsNone(desk.set_begin(name="a", buffer=0, text="c"))
        self.assertEqual(desk["a"], (("c",), (((0, ((0, "ba"),)),),), (("b", 0),)))
        self.assertIsNone(desk.set_entry(name="a", state=0, kind=0, entry=None))
        self.assertIsNone(desk.set_end("a", 0, None))
        self.assertEqual(desk["a"], (("c",), ((None,),), (None,)))
        two = Desk(2)
        two["x"] = (("", "b"), ((None, None), (None, (0, ((1,), (0,))))), (None, ()))
        two.set_entry("x", 1, 0, (1, ((), ("a",))))
        two.set_end("x", 1, (1, 0))
        two.set_begin("x", 1, "")
        self.assertEqual(two["x"], (("", ""), ((None, None), ((1, ((), ("a",))), (0, ((1,), (0,))))), (None, (1, 0))))

    def test_unknown_names_and_places(self):
        desk = self.desk(a=ONE)
        for name in ("b", "", None, ["a"], ("a",), 0, True):
            for act in (
                lambda: desk.set_entry(name, 9, 9, 9), lambda: desk.set_end(name, 9, 9), lambda: desk.set_begin(name, 9, 9),
            ):
                self.refused(desk, act, UnknownName, value=name)
        for value in NUMBERS + (1,):
            self.refused(desk, lambda: desk.set_entry("a", value, value, 9), UnknownEntry, index=value)
            self.refused(desk, lambda: desk.set_entry("a", value, 0, None), UnknownEntry, index=value)
            self.refused(desk, lambda: desk.set_entry("a", 0, value, 9), UnknownEntry, index=value)
            self.refused(desk, lambda: desk.set_end("a", value, None), UnknownEntry, index=value)
            self.refused(desk, lambda: desk.set_end("a", value, 9), UnknownEntry, index=value)
            self.refused(desk, lambda: desk.set_begin("a", value, "a"), UnknownEntry, index=value)
        self.refused(desk, lambda: desk.set_entry("a", 3, 4, 9), UnknownEntry, index=3)
        self.refused(desk, lambda: desk.set_entry("a", 0, 4, 9), UnknownEntry, index=4)

    def test_what_would_be_none(self):
        desk = self.desk(a=ONE)
        for value in STRANGE + ((1, ((0,),)), (0, ((0, 0),)), (0, ((0,), ())), (0, (("",),))):
            if value is not None:
                self.refused(desk, lambda: desk.set_entry("a", 0, 0, value), InvalidWriter, part=("state", 0))
            if value not in (None, (), ("a",), ("alike",)):
                self.refused(desk, lambda: desk.set_end("a", 0, value), InvalidWriter, part=("end", 0))
            if value not in ("", "a", "ab"):
                self.refused(desk, lambda: desk.set_begin("a", 0, value), InvalidWriter, part=("begins",))
        long = "a" * 25
        self.refused(desk, lambda: desk.set_entry("a", 0, 0, (0, ((0, long),))), InvalidWriter, part=("small",))
        self.refused(desk, lambda: desk.set_end("a", 0, (long,)), InvalidWriter, part=("small",))
        self.refused(desk, lambda: desk.set_begin("a", 0, long), InvalidWriter, part=("small",))
        longest = "a" * 241
        self.refused(desk, lambda: desk.set_begin("a", 0, longest), InvalidWriter, part=("begins",))
        desk.set_begin("a", 0, "a" * 24)
        self.assertEqual(desk["a"][0], ("a" * 24,))

    def test_attempt(self):
        desk = self.desk(a=ONE)
        edits = (
            ("put", "b", TWO), ("entry", "b", 0, 0, None), ("end", "b", 0, (0,)), ("begin", "b", 0, "z"), ("drop", "a"),
            ("put", "a", THREE), ("put", "a", LONE),
        )
        kept = copy.deepcopy(edits)
        self.assertIsNone(desk.attempt(edits))
        self.assertEqual(edits, kept)
        self.assertEqual({name: desk[name] for name in desk.names()}, {"a": LONE, "b": (("z",), ((None,),), ((0,),))})
        self.assertIsNone(desk.attempt(edits=()))
        self.assertEqual(desk.names(), ("a", "b"))

    def test_edits_of_another_form(self):
        desk = self.desk(a=ONE)
        for value in ([], None, "put", 0, {}, [("drop", "a")], (("drop", "a"),) * 41, True):
            self.refused(desk, lambda: desk.attempt(value), InvalidEdits, index=None)
        desk.attempt((("put", "a", ONE),) * 40)
        for value in (
            None, (), ("drop",), ("drop", "a", "b"), ("put", "a"), ("put", "a", ONE, ONE), ["drop", "a"], "drop", 0,
            ("entry", "a", 0, 0), ("entry", "a", 0, 0, None, None), ("end", "a", 0), ("end", "a", 0, None, None),
            ("begin", "a", 0), ("begin", "a", 0, "", ""), ("other", "a"), (None, "a"), (["drop"], "a"), (("drop",), "a"),
            ("Drop", "a"), (0, 0, 0),
        ):
            self.refused(desk, lambda: desk.attempt((value,)), InvalidEdits, index=0)
            self.refused(desk, lambda: desk.attempt((("drop", "nobody"), ("put", "c", None), value)), InvalidEdits, index=2)
            self.refused(desk, lambda: desk.attempt((("drop", "a"), value, value)), InvalidEdits, index=1)

    def test_edits_that_raise_errors(self):
        desk = self.desk(a=ONE, b=TWO)
        number = desk.start("b")
        desk.feed(number, 0)
        for edit, reason in (
            (("put", "", ONE), "InvalidName"), (("put", None, ONE), "InvalidName"), (("put", "c", None), "InvalidWriter"),
            (("put", "c", BIG), "InvalidWriter"), (("drop", "nobody"), "UnknownName"), (("drop", []), "UnknownName"),
            (("entry", "c", 0, 0, None), "UnknownName"), (("entry", "a", 1, 0, None), "UnknownEntry"),
            (("entry", "a", 0, True, None), "UnknownEntry"), (("entry", "a", 0, 0, 0), "InvalidWriter"),
            (("end", "a", None, None), "UnknownEntry"), (("end", "a", 0, 5), "InvalidWriter"),
            (("begin", "a", 5, ""), "UnknownEntry"), (("begin", "a", 0, 5), "InvalidWriter"), (("drop", "b"), "Barred"),
            (("put", "b", LONE), "Barred"), (("end", "b", 0, None), "Barred"), (("entry", "b", 0, 0, None), "Barred"),
            (("begin", "b", 0, "zz"), "Barred"),
        ):
            self.assertTrue(issubclass(getattr(errors, reason), Exception))
            self.refused(desk, lambda: desk.attempt((edit,)), EditRefused, index=0, reason=reason)
            before = (("put", "a", THREE), ("put", "d", ONE), ("drop", "d"))
            self.refused(desk, lambda: desk.attempt(before + (edit,)), EditRefused, index=3, reason=reason)
            self.refused(desk, lambda: desk.attempt((edit, ("drop", "nobody"))), EditRefused, index=0, reason=reason)
        full = tuple(("put", name, ONE) for name in "cdefg")
        self.refused(desk, lambda: desk.attempt(full), EditRefused, index=4, reason="LimitExceeded")
        desk.attempt(full[:4])
        self.assertEqual(len(desk), 6)

    def test_edits_see_what_those_before_them_did(self):
        desk = self.desk(a=ONE)
        number = desk.start("a")
        desk.feed(number, 0)
        self.assertEqual(desk.state_of(number), ("a", (0,), "aba"))
        # The first edit has sent more, which the second one would take back.
        more = (("",), (((0, ((0, "abab"),)),),), ((0, "a"),))
        self.refused(
            desk, lambda: desk.attempt((("put", "a", more), ("put", "a", ONE))), EditRefused, index=1, reason="Barred"
        )
        self.assertEqual(desk.state_of(number), ("a", (0,), "aba"))
        desk.attempt((("put", "a", more), ("put", "a", more)))
        self.assertEqual(desk.state_of(number), ("a", (0,), "ababa"))
        # Put back at once a name that runs: dropping it is barred all the same.
        self.refused(
            desk, lambda: desk.attempt((("drop", "a"), ("put", "a", more))), EditRefused, index=0, reason="Barred"
        )


class RunningTest(Checking):
    def test_start_feed_stop(self):
        desk = self.desk(a=ONE, b=LONE)
        self.assertEqual((desk.start("a"), desk.start(name="b")), (0, 1))
        self.assertEqual(desk.state_of(0), ("a", (), "a"))
        self.assertEqual((desk.feed(0, 0), desk.feed(number=0, kind=0), desk.feed(1, 0)), ("ba", "ba", "a"))
        self.assertEqual((desk.state_of(0), desk.state_of(number=1)), (("a", (0, 0), "ababa"), ("b", (0,), "a")))
        self.assertIsNone(desk.stop(0))
        self.refused(desk, lambda: desk.state_of(0), UnknownPress, number=0)
        self.refused(desk, lambda: desk.feed(0, 0), UnknownPress, number=0)
        self.refused(desk, lambda: desk.stop(0), UnknownPress, number=0)
        self.assertEqual(desk.start("a"), 2)
        self.assertIsNone(desk.stop(number=2))
        self.assertEqual(desk.start("a"), 3)

    def test_numbers_that_are_none(self):
        desk = self.desk(a=ONE)
        desk.start("a")
        desk.start("a")
        for value in NUMBERS + (2,):
            self.refused(desk, lambda: desk.feed(value, 0), UnknownPress, number=value)
            self.refused(desk, lambda: desk.feed(value, None), UnknownPress, number=value)
            self.refused(desk, lambda: desk.state_of(value), UnknownPress, number=value)
            self.refused(desk, lambda: desk.stop(value), UnknownPress, number=value)

    def test_four_and_a_fifth(self):
        desk = self.desk(a=ONE, n=SILENT)
        for value in STRANGE:
            if value != "a":
                self.refused(desk, lambda: desk.start(value), UnknownName, value=value)
        self.refused(desk, lambda: desk.start("n"), NoOutcome)
        self.assertEqual([desk.start("a") for _ in range(4)], [0, 1, 2, 3])
        for name in ("a", "b", "n", None):
            self.refused(desk, lambda: desk.start(name), LimitExceeded, limit=4)
        desk.stop(1)
        self.refused(desk, lambda: desk.start("b"), UnknownName, value="b")
        self.refused(desk, lambda: desk.start("n"), NoOutcome)
        self.assertEqual(desk.start("a"), 4)

    def test_feed(self):
        desk = self.desk(a=ONE, d=(("",), (((1, ((0, "a"),)),), (None,)), ((0,), (0, "b"))))
        dead = Desk(2)
        dead["x"] = (("",), (((0, ((0, "a"),)), (1, ((0,),))), ((1, ((0,),)), None)), ((0,), None))
        dead.start("x")
        for value in (2, -1, True, None, "0", (0,), [0]):
            self.refused(dead, lambda: dead.feed(0, value), UnknownKind, value=value)
        self.refused(dead, lambda: dead.feed(0, 1), Refused, index=0)
        for _ in range(60):
            dead.feed(0, 0)
        self.refused(dead, lambda: dead.feed(0, 0), LimitExceeded, limit=60)
        self.refused(dead, lambda: dead.feed(0, 1), Refused, index=60)
        self.refused(dead, lambda: dead.feed(0, 2), UnknownKind, value=2)
        number = desk.start("d")
        self.assertEqual((desk.state_of(number), desk.feed(number, 0)), (("d", (), ""), "ab"))
        self.refused(desk, lambda: desk.feed(number, 0), Refused, index=1)

    def test_presses_that_bar(self):
        desk = self.desk(a=ONE, b=ONE)
        first, second, third = desk.start("b"), desk.start("a"), desk.start("a")
        desk.feed(third, 0)
        self.refused(desk, lambda: desk.drop("a"), Barred, number=second)
        self.refused(desk, lambda: desk.drop("b"), Barred, number=first)
        self.refused(desk, lambda: put(desk, "a", SILENT), Barred, number=second)
        self.refused(desk, lambda: put(desk, "a", LONE), Barred, number=second)
        # The second press lets it, the third one does not.
        self.refused(desk, lambda: put(desk, "a", (("",), LONE[1], ((0, "a"),))), Barred, number=third)
        self.refused(desk, lambda: desk.set_entry("a", 0, 0, None), Barred, number=third)
        self.refused(desk, lambda: desk.set_end("a", 0, None), Barred, number=second)
        self.refused(desk, lambda: desk.set_begin("a", 0, "b"), Barred, number=second)
        self.refused(desk, lambda: desk.set_begin("a", 0, ["b"]), InvalidWriter, part=("begins",))
        # Other names are free, and these ones when the presses are stopped.
        desk["c"] = SILENT
        desk.drop("c")
        desk.stop(second)
        desk.stop(third)
        desk["a"] = SILENT
        desk.drop("a")
        self.refused(desk, lambda: desk.drop("b"), Barred, number=first)

    def test_presses_that_send_more(self):
        desk = self.desk(a=ONE)
        first, second = desk.start("a"), desk.start("a")
        desk.feed(second, 0)
        more = (("",), (((0, ((0, "ab"),)),),), ((0, "ab"),))
        desk["a"] = more
        self.assertEqual((desk.state_of(first), desk.state_of(second)), (("a", (), "ab"), ("a", (0,), "abab")))
        self.assertEqual(desk.feed(first, 0), "ab")
        # Now the old one would take a letter back, though it is as it was.
        self.refused(desk, lambda: put(desk, "a", ONE), Barred, number=first)
        desk.set_end("a", 0, (0, "abx"))
        self.assertEqual((desk.state_of(first)[2], desk.state_of(second)[2]), ("abab", "abab"))

    def test_a_word_that_would_be_refused(self):
        desk = self.desk(a=LONE)
        number = desk.start("a")
        desk.feed(number, 0)
        desk.feed(number, 0)
        short = (("",), (((1, ((0, "a"),)),), (None,)), ((0,), (0,)))
        self.refused(desk, lambda: put(desk, "a", short), Barred, number=number)
        long = (("",), (((1, ((0, "a"),)),), ((2, ((0, "a"),)),), (None,)), (None, None, (0,)))
        desk["a"] = long
        self.assertEqual(desk.state_of(number), ("a", (0, 0), "aa"))
        self.refused(desk, lambda: desk.feed(number, 0), Refused, index=2)


class RecordsTest(Checking):
    def named(self, claim):
        """A desk with the claim's writers, and the claim with their names."""
        many = len(names_in(claim))
        desk = Desk(len(claim[1][1][0]))
        for name, writer in zip("pq", claim[1:1 + many]):
            desk[name] = writer
        return desk, claim[:1] + tuple("pq"[:many]) + claim[1 + many:]

    def test_named_claims_of_each_sort(self):
        maker = Maker(121)
        for name in NAMES:
            for _ in range(10):
                claim = claim_of(maker, name)
                desk, named = self.named(claim)
                verdict, _, paper = decide(claim)
                self.assertEqual(desk.decide(claim=named), (verdict, paper))
                self.assertEqual(desk.records(), 0)
                self.assertEqual(desk.record(claim=named), 0)
                self.assertEqual(desk.recorded(number=0), (verdict, named, paper))
                self.assertIsNone(desk.standing(number=0))

    def test_one_name_twice(self):
        desk = self.desk(a=ONE)
        self.assertEqual(desk.decide(("alike", "a", "a"))[0], "shown")

    def test_claims_that_are_none(self):
        desk = self.desk(a=ONE, b=TWO)
        for value in STRANGE + (ONE, ["alike", "a", "b"], ("alike", "a"), ("alike", "a", "b", "c"), ("Alike", "a", "b"),
                                (("alike",), "a", "b"), ("alike", "x"), ("tests", "x", "y"), (["alike"], "a", "b")):
            self.refused(desk, lambda: desk.decide(value), InvalidClaim)
            self.refused(desk, lambda: desk.record(value), InvalidClaim)
        for value in (
            ("tests", "a", "b", 0), ("tests", "a", "b", True), ("first", "a", "b", (1,)), ("fine", "a", [0], 1),
            ("sure", "a", (), 1), ("meets", "a", ()), ("written", "a", "abcde", 1), ("surplus", "a", "b", (), 0),
            ("endless", "a", "b", 0), ("exchange", "a", (0,) * 5, ()),
        ):
            self.refused(desk, lambda: desk.decide(value), InvalidClaim)
            self.refused(desk, lambda: desk.record(value), InvalidClaim)

    def test_unknown_names(self):
        desk = self.desk(a=ONE)
        for value, name in (
            (("alike", "x", "y"), "x"), (("alike", "a", "y"), "y"), (("alike", "x", "a"), "x"), (("tests", "a", "c", 0), "c"),
            (("fine", "x", None, None), "x"), (("alike", ["a"], "a"), ["a"]), (("alike", ONE, ONE), ONE),
            (("alike", None, "a"), None), (("exchange", True, 0, 0), True), (("alike", "a", ()), ()),
        ):
            self.refused(desk, lambda: desk.decide(value), UnknownName, value=name)
            self.refused(desk, lambda: desk.record(value), UnknownName, value=name)

    def test_standing(self):
        desk = self.desk(a=ONE, b=TWO)
        number = desk.record(("alike", "a", "b"))
        self.assertIsNone(desk.standing(number))
        desk.set_end("a", 0, (0, "b"))
        self.assertEqual(desk.standing(number), ("differ", 0))
        desk.set_end("b", 0, ("b", 0))
        self.assertEqual(desk.standing(number), ("differ", 1))
        desk.set_entry("b", 0, 0, None)
        self.assertEqual(desk.standing(number), ("differ", 1))
        desk.set_entry("a", 0, 0, None)
        self.assertEqual(desk.standing(number), ("gone", 1))
        desk.drop("b")
        self.assertEqual(desk.standing(number), ("name", "b"))
        desk.drop("a")
        self.assertEqual(desk.standing(number), ("name", "a"))
        desk["b"] = TWO
        self.assertEqual(desk.standing(number), ("name", "a"))
        desk["a"] = ONE
        self.assertIsNone(desk.standing(number))
        self.assertEqual(desk.recorded(number), ("shown", ("alike", "a", "b"), ((), (0,))))

    def test_standing_of_claims_that_are_no_more_valid(self):
        desk = self.desk(a=LONE)
        fine = desk.record(("fine", "a", (0, 0), 2))
        form = (("a",), ((0, 1), (1, 2), (2, 3), (3, 0)), ())
        meets = desk.record(("meets", "a", form))
        self.assertEqual((desk.standing(fine), desk.standing(meets)), (None, None))
        desk["a"] = (("",), (((1, ((0, "a"),)),), (None,)), ((0,), (0,)))
        self.assertEqual(desk.standing(fine), ("claim",))
        desk["a"] = (("", ""), (((0, ((0, "a"), (1,))),),), ((0,),))
        self.assertEqual((desk.standing(fine), desk.standing(meets)), (None, ("claim",)))

    def test_standing_may_come_and_go_with_the_truth_unchanged(self):
        # The claim is still true, but the tests are too few for the new writers.
        desk = self.desk(a=(("",), (((0, ((0,),)),),), ((0,),)), b=(("",), (((0, ((0,),)),),), ((0,),)))
        number = desk.record(("alike", "a", "b"))
        self.assertEqual(desk.recorded(number)[2], ((),))
        desk["a"], desk["b"] = ONE, ONE
        self.assertEqual(desk.standing(number), ("open", 0, 0))

    def test_eight_and_a_ninth(self):
        desk = self.desk(a=ONE)
        for number in range(8):
            self.assertEqual(desk.record(("tests", "a", "a", number + 1)), number)
            self.assertEqual(desk.records(), number + 1)
        for value in (("tests", "a", "a", 9), None, ("alike", "x", "y"), ("tests", "a", "a", 0)):
            self.refused(desk, lambda: desk.record(value), LimitExceeded, limit=8)
        self.assertEqual(desk.decide(("tests", "a", "a", 9))[0], "broken")

    def test_numbers_that_are_none(self):
        desk = self.desk(a=ONE)
        desk.record(("alike", "a", "a"))
        desk.record(("alike", "a", "a"))
        for value in NUMBERS + (2,):
            self.refused(desk, lambda: desk.recorded(value), UnknownRecord, number=value)
            self.refused(desk, lambda: desk.standing(value), UnknownRecord, number=value)

    def test_classes(self):
        desk = self.desk(e=ONE, d=THREE, c=doubled(ONE), b=LONE, a=exchanged(TWO))
        self.assertEqual(desk.classes(), (("a", "c", "e"), ("b",), ("d",)))
        desk.drop("a")
        desk["z"] = THREE
        self.assertEqual(desk.classes(), (("b",), ("c", "e"), ("d", "z")))
        maker = Maker(122)
        for _ in range(20):
            kinds = maker.random.randint(1, 3)
            desk = Desk(kinds)
            some = [maker.writer(states=1, kinds=kinds, buffers=1, most=1) for _ in range(2)]
            for name in "fedcba":
                desk[name] = maker.random.choice(some + [doubled(some[0]), maker.writer(states=1, kinds=kinds)])
            found = desk.classes()
            self.assertEqual(sorted(name for names in found for name in names), list("abcdef"))
            self.assertEqual(found, tuple(sorted(found)))
            for names in found:
                self.assertEqual(names, tuple(sorted(names)))
            for one in "abcdef":
                for two in "abcdef":
                    together = any(one in names and two in names for names in found)
                    self.assertIs(together, alike(desk[one], desk[two]))


class CheckpointsTest(Checking):
    def test_four_and_a_fifth(self):
        desk = self.desk(a=ONE)
        self.assertEqual([desk.checkpoint() for _ in range(4)], [0, 1, 2, 3])
        self.refused(desk, lambda: desk.checkpoint(), LimitExceeded, limit=4)
        desk.restore(0)
        self.refused(desk, lambda: desk.checkpoint(), LimitExceeded, limit=4)
        for value in NUMBERS + (4,):
            self.refused(desk, lambda: desk.restore(value), UnknownCheckpoint, number=value)

    def test_restore(self):
        desk = self.desk(a=ONE)
        self.refused(desk, lambda: desk.restore(0), UnknownCheckpoint, number=0)
        self.assertEqual(desk.checkpoint(), 0)
        desk["b"] = TWO
        desk["a"] = THREE
        self.assertEqual(desk.checkpoint(), 1)
        desk.drop("a")
        record = desk.record(("alike", "b", "b"))
        self.assertIsNone(desk.restore(number=0))
        self.assertEqual((desk.names(), desk["a"]), (("a",), ONE))
        self.assertEqual((desk.records(), desk.standing(record)), (1, ("name", "b")))
        desk["a"] = LONE
        desk.restore(0)
        self.assertEqual((desk.names(), desk["a"]), (("a",), ONE))
        desk.restore(1)
        self.assertEqual((desk.names(), desk["a"], desk["b"]), (("a", "b"), THREE, TWO))
        self.assertIsNone(desk.standing(record))
        desk.set_end("a", 0, None)
        desk.restore(1)
        self.assertEqual(desk["a"], THREE)
        self.assertEqual(desk.checkpoint(), 2)

    def test_presses_that_bar(self):
        desk = self.desk(a=ONE)
        desk.checkpoint()
        desk["b"] = TWO
        desk.checkpoint()
        desk["a"] = (("",), (((0, ((0, "ab"),)),),), ((0, "ab"),))
        first = desk.start("b")
        second = desk.start("a")
        self.refused(desk, lambda: desk.restore(0), Barred, number=first)
        self.refused(desk, lambda: desk.restore(1), Barred, number=second)
        desk.stop(second)
        desk.restore(1)
        self.assertEqual((desk["a"], desk.state_of(first)), (ONE, ("b", (), "a")))
        desk.stop(first)
        desk.restore(0)
        self.assertEqual(desk.start("a"), 2)

    def test_presses_that_send_more_and_numbers_that_go_on(self):
        desk = self.desk(a=(("",), (((0, ((0, "ab"),)),),), ((0, "ab"),)))
        desk.checkpoint()
        desk["a"] = ONE
        number = desk.start("a")
        desk.feed(number, 0)
        self.assertEqual(desk.state_of(number), ("a", (0,), "aba"))
        desk.restore(0)
        self.assertEqual(desk.state_of(number), ("a", (0,), "abab"))
        self.refused(desk, lambda: put(desk, "a", ONE), Barred, number=number)
        desk.stop(number)
        desk.restore(0)
        self.assertEqual(desk.start("a"), 1)
        self.assertEqual(desk.record(("alike", "a", "a")), 0)
        desk.restore(0)
        self.assertEqual(desk.record(("alike", "a", "a")), 1)
        self.assertEqual(desk.checkpoint(), 1)

    def test_restore_to_none(self):
        desk = Desk(1)
        desk.checkpoint()
        desk["a"] = ONE
        number = desk.start("a")
        self.refused(desk, lambda: desk.restore(0), Barred, number=number)
        desk.stop(number)
        desk.restore(0)
        self.assertEqual((len(desk), desk.names()), (0, ()))


class Model:
    """A desk by the document's words: each change is looked at by all presses."""

    def __init__(self, kinds):
        self.kinds, self.writers, self.presses, self.started, self.records, self.moments = kinds, {}, {}, 0, [], []

    def sure(self, writer, word):
        return None if behind(writer, word) is None else sure_text(writer, word)

    def go_on(self, writers):
        later = {}
        for number, (name, word, sent) in sorted(self.presses.items()):
            sure = self.sure(writers[name], word) if name in writers else None
            if sure is None or not sure.startswith(sent):
                return Barred
            later[number] = (name, word, sure)
        self.writers, self.presses = writers, later
        return None

    def put(self, name, value):
        try:
            right = is_small(require_writer(value)) and len(value[1][0]) == self.kinds
        except InvalidWriter:
            right = False
        if not right:
            return InvalidWriter
        if name not in self.writers and len(self.writers) == 6:
            return LimitExceeded
        return self.go_on({**self.writers, name: value})

    def drop(self, name):
        if name not in self.writers:
            return UnknownName
        return self.go_on({other: value for other, value in self.writers.items() if other != name})

    def entry(self, name, state, kind, entry):
        if name not in self.writers:
            return UnknownName
        begins, rules, ends = self.writers[name]
        if state >= len(rules) or kind >= self.kinds:
            return UnknownEntry
        rows = [list(row) for row in rules]
        rows[state][kind] = entry
        return self.put(name, (begins, tuple(map(tuple, rows)), ends))

    def end(self, name, state, recipe):
        if name not in self.writers:
            return UnknownName
        begins, rules, ends = self.writers[name]
        if state >= len(rules):
            return UnknownEntry
        return self.put(name, (begins, rules, ends[:state] + (recipe,) + ends[state + 1:]))

    def begin(self, name, buffer, text):
        if name not in self.writers:
            return UnknownName
        begins, rules, ends = self.writers[name]
        if buffer >= len(begins):
            return UnknownEntry
        return self.put(name, (begins[:buffer] + (text,) + begins[buffer + 1:], rules, ends))

    def edit(self, edit):
        return getattr(self, edit[0])(*edit[1:])

    def attempt(self, edits):
        kept = (self.writers, self.presses)
        for index, edit in enumerate(edits):
            error = self.edit(edit)
            if error is not None:
                self.writers, self.presses = kept
                return EditRefused, index, error.__name__
        return None

    def feed(self, number, kind):
        if number not in self.presses:
            return UnknownPress
        name, word, sent = self.presses[number]
        sure = self.sure(self.writers[name], word + (kind,))
        if sure is None:
            return Refused
        self.presses[number] = (name, word + (kind,), sure)
        return sure[len(sent):]


class DrawnTest(unittest.TestCase):
    def edit_of(self, maker, kinds, model):
        pick = maker.random
        name = pick.choice("abc")
        writer = maker.writer(kinds=kinds, letters="a" if pick.random() < 0.7 else "ab", most=1, refused=0.1)
        sort = pick.choice(("put", "put", "drop", "entry", "end", "begin"))
        if sort == "put":
            if name in model.writers and pick.random() < 0.5:
                writer = pick.choice((doubled, exchanged, maker.changed))(model.writers[name])
            return ("put", name, pick.choice((writer, writer, writer, BIG)))
        if sort == "drop":
            return ("drop", name)
        if sort == "begin":
            return ("begin", name, pick.randint(0, 2), pick.choice(("", "a", "A")))
        state = pick.randint(0, 3)
        if sort == "end":
            return ("end", name, state, pick.choice((None, (0,), (0, "a"), ("a", 0), (), (5,))))
        entry = pick.choice((None, (0, ((0, "a"),)), (0, ((0,), (1, "a"))), (0, ((0,), ())), (0, ((0, "aa"),)), 0))
        return ("entry", name, state, pick.randint(0, kinds), entry)

    def deed(self, maker, desk, model):
        """Does the same to both; returns what each one tells."""
        pick = maker.random
        sort = pick.choice(("edit", "edit", "edit", "attempt", "start", "feed", "feed", "feed", "stop", "keep", "restore"))
        if sort == "edit":
            edit = self.edit_of(maker, model.kinds, model)
            act = {
                "put": lambda: put(desk, edit[1], edit[2]), "drop": lambda: desk.drop(edit[1]),
                "entry": lambda: desk.set_entry(*edit[1:]), "end": lambda: desk.set_end(*edit[1:]),
                "begin": lambda: desk.set_begin(*edit[1:]),
            }[edit[0]]
            return self.told(act), model.edit(edit)
        if sort == "attempt":
            edits = tuple(self.edit_of(maker, model.kinds, model) for _ in range(pick.randint(0, 3)))
            return self.told(lambda: desk.attempt(edits)), model.attempt(edits)
        if sort == "start":
            name = pick.choice("abc")
            return self.told(lambda: desk.start(name)), self.model_start(model, name)
        number = pick.choice(list(model.presses) * 4 + [model.started, 0])
        if sort == "feed":
            kind = pick.randrange(model.kinds)
            return self.told(lambda: desk.feed(number, kind)), model.feed(number, kind)
        if sort == "stop":
            known = UnknownPress if number not in model.presses else None
            if pick.random() < 0.3:
                model.presses = {other: press for other, press in model.presses.items() if other != number}
                return self.told(lambda: desk.stop(number)), known
            return None, None
        if sort == "keep":
            if len(model.moments) == 4:
                return self.told(desk.checkpoint), LimitExceeded
            model.moments.append(model.writers)
            return self.told(desk.checkpoint), len(model.moments) - 1
        at = pick.randint(0, 4)
        known = UnknownCheckpoint if at >= len(model.moments) else model.go_on(model.moments[at])
        return self.told(lambda: desk.restore(at)), known

    def model_start(self, model, name):
        if len(model.presses) == 4:
            return LimitExceeded
        if name not in model.writers:
            return UnknownName
        sure = model.sure(model.writers[name], ())
        if sure is None:
            return NoOutcome
        model.presses[model.started] = (name, (), sure)
        model.started += 1
        return model.started - 1

    def told(self, act):
        try:
            return act()
        except EditRefused as caught:
            return EditRefused, caught.index, caught.reason
        except (LookupError, ValueError, RuntimeError, OverflowError) as caught:
            return type(caught)

    def check(self, desk, model):
        self.assertEqual({name: desk[name] for name in desk.names()}, model.writers)
        presses = {}
        for number in range(model.started):
            found = self.told(lambda: desk.state_of(number))
            if found is not UnknownPress:
                presses[number] = found
        self.assertEqual(presses, model.presses)
        for number, (verdict, claim, paper) in enumerate(model.records):
            self.assertEqual(desk.recorded(number), (verdict, claim, paper))
            names = names_in(claim)
            gone = [name for name in names if name not in model.writers]
            if gone:
                self.assertEqual(desk.standing(number), ("name", gone[0]))
            else:
                real = claim[:1] + tuple(model.writers[name] for name in names) + claim[1 + len(names):]
                fault = first_fault((verdict, real, paper))
                self.assertEqual(desk.standing(number), fault)
                # Decided anew the verdict is the same if the record stands.
                if fault is None:
                    self.assertEqual(desk.decide(claim)[0], verdict)

    def test_drawn_deeds(self):
        maker = Maker(123)
        seen = {}
        for _ in range(60):
            kinds = maker.random.randint(1, 2)
            desk, model = Desk(kinds), Model(kinds)
            for name in "ab":
                writer = maker.writer(kinds=kinds, letters="a", most=1, refused=0.1)
                desk[name] = model.writers[name] = writer
            for _ in range(40):
                told, known = self.deed(maker, desk, model)
                self.assertEqual(told, known)
                sort = known if isinstance(known, type) else known[0] if isinstance(known, tuple) else None
                seen[sort] = seen.get(sort, 0) + 1
                if len(model.records) < 8 and maker.random.random() < 0.2:
                    claim = maker.random.choice((("alike", "a", "b"), ("within", "b", "c"), ("sure", "a", (), "a"),
                                                 ("tests", "a", "a", 3), ("surplus", "a", "c", ONES, 0)))
                    if all(name in model.writers for name in names_in(claim)):
                        self.assertEqual(desk.record(claim), len(model.records))
                        model.records.append(desk.recorded(len(model.records)))
                self.check(desk, model)
        for error in (Barred, InvalidWriter, UnknownName, UnknownEntry, Refused, LimitExceeded, EditRefused):
            self.assertGreater(seen.get(error, 0), 3, seen)

    def test_writers_at_their_bounds(self):
        maker = Maker(124)
        writer = maker.writer(4, 3, 2, 24, "ab", 0)
        desk = Desk(3)
        for name, value in zip("abcdef", (writer, exchanged(writer)) * 3):
            desk[name] = value
        numbers = [desk.start("a") for _ in range(4)]
        for number in numbers:
            for _ in range(40):
                desk.feed(number, maker.random.randrange(3))
        desk.attempt(tuple(("put", "a", value) for value in (exchanged(writer), writer) * 20))
        for number in numbers:
            name, word, text = desk.state_of(number)
            self.assertEqual(text, sure_text(writer, word))
        self.assertEqual(desk.classes(), (tuple("abcdef"),))
        for claim in CLAIMS[:2]:
            self.assertIsNone(desk.standing(desk.record((claim[0], "a", "b"))))


if __name__ == "__main__":
    unittest.main()
