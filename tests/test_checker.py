import copy
import unittest

from cases import NAMES, STRANGE, claim_of, mutated, retold
from fewtests.checker import first_fault
from fewtests.claims import decide
from judge import judge
from reference import FORK, Maker, ONE, THREE, TWO, exchanged
from test_claims import CLAIMS

ONES = (1,) * 26
LONE = (("",), (((0, ((0, "a"),)),),), ((0,),))
SILENT = (("",), (((0, ((0, "a"),)),),), (None,))
EVEN = (("a",), ((1, 0), (0, 1)), (0,))
# Writes just (0,), as a.
SHORT = (("",), (((1, ((0, "a"),)),), (None,)), (None, (0,)))
PAIR = (("",), (((0, ((0, "a"),)), (0, (("a", 0),))),), ((0,),))
LOOP = (("",), (((0, ((0,),)), (0, (("a", 0),))),), ((0,),))
ROWS = ((0, (1,), 0, (1,), 0),)


def chain(many):
    return tuple((0,) * length for length in range(many))


class Checking(unittest.TestCase):
    def check(self, certificate, fault):
        kept = copy.deepcopy(certificate)
        self.assertEqual(first_fault(certificate), fault, certificate)
        self.assertEqual(first_fault(certificate=certificate), fault)
        self.assertEqual(judge(certificate), fault, certificate)
        self.assertEqual(certificate, kept)


class FormTest(Checking):
    def test_example(self):
        self.check(("shown", ("alike", ONE, TWO), ((),)), ("open", 0, 0))
        self.check(("shown", ("alike", ONE, TWO), ((), (0,))), None)

    def test_form(self):
        for value in STRANGE:
            fault = ("form",) if not isinstance(value, tuple) or len(value) != 3 else ("claim",)
            self.check(value, fault)
        right = decide(CLAIMS[0])
        self.check(list(right), ("form",))
        self.check(right[:2], ("form",))
        self.check(right + (None,), ("form",))

    def test_claim(self):
        for value in STRANGE:
            self.check(("shown", value, ((),)), ("claim",))
            self.check((value, value, value), ("claim",))
        self.check(("shown", ("alike", ONE, PAIR), ((),)), ("claim",))
        self.check(("shown", ("tests", ONE, TWO, 0), ((),)), ("claim",))
        self.check(("other", ("tests", ONE, TWO, 0), ((),)), ("claim",))

    def test_verdicts(self):
        for claim in CLAIMS:
            verdict, _, paper = decide(claim)
            self.check((verdict, claim, paper), None)
            for value in STRANGE + ("SHOWN", "open", ("shown",)):
                self.check((value, claim, paper), ("paper",))
            other = "broken" if verdict == "shown" else "shown"
            self.assertIsNotNone(first_fault((other, claim, paper)))

    def test_papers_of_every_kind(self):
        for claim in CLAIMS:
            for verdict in ("shown", "broken"):
                for value in STRANGE:
                    found = judge((verdict, claim, value))
                    self.assertIsNotNone(found)
                    self.check((verdict, claim, value), found)

    def test_tests_that_are_none(self):
        claim = ("alike", ONE, TWO)
        for paper in (
            (), ((0,),), ((), ()), ((), (0, 0), (0,)), ((), (0,), (0,)), ((), (1,)), ((), (True,)), ((), [0]), [()], None,
            ((), (0,) * 301), ((), (False,)), ((), (-1,)), "()", (None,),
        ):
            for told in (claim, ("within", ONE, TWO), ("first", ONE, THREE, (0, 0)), ("tests", ONE, TWO, 2),
                         ("fine", ONE, (), 2), ("sure", ONE, (), "a"), ("exchange", ONE, (), ())):
                if told[0] == "exchange" and paper == ((), (1,)):
                    continue
                self.check(("shown", told, paper), ("paper",))
            self.check(("broken", ("tests", ONE, TWO, 3), ("fewer", paper)), ("paper",))
            self.check(("broken", ("fine", ONE, (), 1), ("more", paper)), ("paper",))
            self.check(("broken", ("sure", ONE, (), ""), paper), ("paper",))
        self.check(("shown", claim, ((), (0,), (0,) * 300)), None)
        self.check(("broken", ("sure", ONE, (), ""), ((), (0,), (0,) * 300)), None)

    def test_lengths_of_words(self):
        far = ("alike", LONE, (("",), (((0, (("b", 0),)),),), ((0,),)))
        self.check(("broken", far, (0,) * 3000), None)
        self.check(("broken", far, (0,) * 3001), ("paper",))
        self.check(("broken", ("within",) + far[1:], (0,) * 3000), None)
        self.check(("broken", ("within",) + far[1:], (0,) * 3001), ("paper",))
        self.check(("broken", ("first",) + far[1:] + ((0,) * 1000,), ("earlier", (0,) * 999)), None)
        self.check(("broken", ("first",) + far[1:] + ((0,) * 1000,), ("earlier", (0,) * 3000)), ("late",))
        self.check(("broken", ("first",) + far[1:] + ((0,) * 1000,), ("earlier", (0,) * 3001)), ("paper",))
        self.check(("shown", ("meets", LONE, EVEN), (0,) * 3000), None)
        self.check(("shown", ("meets", LONE, EVEN), (0,) * 3001), ("paper",))
        self.check(("shown", ("written", LOOP, "a", None), ((1,), (0,) * 3000, (0,) * 3000)), None)
        self.check(("shown", ("written", LOOP, "a", None), ((1,), (0,) * 3001, ())), ("paper",))
        self.check(("broken", ("written", LOOP, "a", 0), ("endless", ((1,), (0,) * 3001, ()))), ("paper",))
        self.check(("broken", ("surplus", ONE, LONE, ONES, 0), ("more", (0,) * 3000)), None)
        self.check(("broken", ("surplus", ONE, LONE, ONES, 0), ("more", (0,) * 3001)), ("paper",))
        self.check(("shown", ("endless", ONE, LONE, ONES), ((), (0,) * 3000, ())), None)
        self.check(("shown", ("endless", ONE, LONE, ONES), ((0,) * 3001, (0,), ())), ("paper",))
        self.check(("broken", ("exchange", PAIR, (0,), ()), ((0,) * 3000, ())), None)
        self.check(("broken", ("exchange", PAIR, (0,), ()), ((0,) * 3001, ())), ("paper",))


class WordsTest(Checking):
    def test_alike(self):
        self.check(("shown", ("alike", ONE, THREE), ((), (0,))), ("open", 1, 0))
        self.check(("shown", ("alike", ONE, THREE), chain(3)), ("differ", 2))
        self.check(("shown", ("alike", ONE, SILENT), chain(3)), ("differ", 0))
        self.check(("shown", ("alike", SHORT, SHORT), chain(2)), None)
        self.check(("shown", ("alike", SHORT, SHORT), chain(3)), ("gone", 2))
        # In this order: gone before differ, differ before open.
        self.check(("shown", ("alike", SHORT, (SHORT[0], SHORT[1], (None, None))), chain(3)), ("gone", 2))
        self.check(("shown", ("alike", ONE, SHORT), ((),)), ("differ", 0))
        self.check(("shown", ("alike", PAIR, PAIR), ((), (0,))), None)
        self.check(("shown", ("alike", PAIR, PAIR), ((),)), ("open", 0, 0))
        fork = (FORK[0], FORK[1], (None, None))
        self.check(("shown", ("alike", fork, fork), ((), (0,), (1,))), None)
        self.check(("shown", ("alike", fork, fork), ((), (0,))), ("open", 0, 1))
        self.check(("shown", ("alike", fork, fork), ((), (1,))), ("open", 0, 0))
        self.check(("broken", ("alike", ONE, THREE), (0, 0)), None)
        self.check(("broken", ("alike", ONE, THREE), (0, 0, 0)), None)
        self.check(("broken", ("alike", ONE, THREE), (0,)), ("word",))
        self.check(("broken", ("alike", ONE, TWO), ()), ("word",))

    def test_within(self):
        self.check(("shown", ("within", SILENT, ONE), chain(3)), None)
        self.check(("shown", ("within", SILENT, ONE), chain(2)), ("open", 1, 0))
        self.check(("shown", ("within", ONE, SILENT), ((), (0,))), ("differ", 0))
        self.check(("shown", ("within", SHORT, LONE), chain(2)), None)
        self.check(("shown", ("within", SHORT, LONE), chain(3)), ("gone", 2))
        self.check(("shown", ("within", SHORT, LONE), ((),)), ("open", 0, 0))
        self.check(("shown", ("within", LONE, SHORT), ((),)), ("differ", 0))
        refuse = (("",), ((None,),), (None,))
        self.check(("shown", ("within", SILENT, refuse), ((), (0,))), None)
        self.check(("shown", ("within", refuse, SILENT), ((),)), None)
        self.check(("shown", ("within", refuse, ONE), ((), (0,))), ("gone", 1))
        self.check(("broken", ("within", LONE, SHORT), ()), None)
        self.check(("broken", ("within", SHORT, LONE), ()), ("word",))
        self.check(("broken", ("within", SHORT, LONE), (0,)), ("word",))
        self.check(("broken", ("alike", SHORT, LONE), ()), None)

    def test_exchange(self):
        claim = ("exchange", PAIR, (0, 1), (1, 1))
        self.check(("shown", claim, ((), (0,))), None)
        self.check(("shown", claim, ((), (2,))), None)
        self.check(("shown", claim, ((), (3,))), ("paper",))
        self.check(("shown", claim, ((),)), ("open", 0, 0))
        claim = ("exchange", PAIR, (0,), ())
        self.check(("shown", claim, ((), (0,))), ("open", 0, 2))
        self.check(("shown", claim, ((), (0,), (2,))), ("differ", 2))
        self.check(("broken", claim, ((), ())), None)
        self.check(("broken", claim, ((0, 1), (1,))), None)
        self.check(("broken", claim, ((2,), ())), ("paper",))
        self.check(("broken", claim, ((),)), ("paper",))
        self.check(("broken", ("exchange", PAIR, (0,), (1,)), ((), ())), ("word",))
        twin = (("",), (((1, ((0,),)), None), (None, None)), ((0,), None))
        self.check(("shown", ("exchange", twin, (1,), (0, 0)), ((), (0,))), None)
        self.check(("shown", ("exchange", twin, (1,), (0, 0)), ((), (0,), (2,))), ("gone", 2))

    def test_first(self):
        claim = ("first", ONE, THREE, (0, 0))
        self.check(("shown", claim, ((), (0,))), None)
        self.check(("shown", claim, ((),)), ("open", 0, 0))
        self.check(("shown", claim, chain(3)), ("late", 2))
        self.check(("shown", claim, ()), ("paper",))
        self.check(("shown", ("first", ONE, THREE, (0,)), ((),)), ("word",))
        self.check(("shown", ("first", ONE, THREE, (0,)), chain(3)), ("word",))
        self.check(("shown", ("first", ONE, SILENT, ()), ()), None)
        self.check(("shown", ("first", ONE, SILENT, ()), ((),)), ("paper",))
        self.check(("shown", ("first", ONE, TWO, ()), ()), ("word",))
        self.check(("shown", ("first", ONE, SILENT, (0,)), ((),)), ("differ", 0))
        self.check(("broken", claim, ("same",)), ("word",))
        self.check(("broken", ("first", ONE, THREE, (0,)), ("same",)), None)
        self.check(("broken", ("first", ONE, THREE, (0, 0, 0)), ("earlier", (0, 0))), None)
        self.check(("broken", ("first", ONE, THREE, (0, 0, 0)), ("earlier", (0,))), ("word",))
        self.check(("broken", ("first", ONE, THREE, (0, 0, 0)), ("earlier", (0, 0, 0))), ("late",))
        self.check(("broken", ("first", ONE, THREE, (0, 0)), ("earlier", (0, 0, 0))), ("late",))
        self.check(("broken", ("first", ONE, THREE, ()), ("earlier", (0,))), ("late",))
        # They need not differ at the word itself.
        self.check(("broken", ("first", ONE, SHORT, (0, 0, 0)), ("earlier", ())), None)
        for paper in ("same", ["same"], ("same", ()), ("earlier",), ("later", ()), ("earlier", (1,)), ("earlier", ())[::-1]):
            self.check(("broken", claim, paper), ("paper",))

    def test_first_with_sums_of_tests_that_come_later(self):
        # Kinds 0 and 1 bring aa and ab: of both together ba is a sum, but it comes between them.
        three = (("",), (((1, (("aa",),)), (1, (("ba",),)), (1, (("ab",),))), (None, None, None)), (None, None))
        other = (three[0], three[1], (None, (0,)))
        self.check(("shown", ("first", three, other, (2,)), ((), (0,))), ("differ", 1))
        # No text, so no difference before (2,): the state 2 has the end.
        rows = (
            ((1, (("aa",),)), (1, (("ba",),)), (1, (("ab",),))),
            ((2, ((0,),)), (2, ((0,),)), (2, ((0,),))),
            (None, None, None),
        )
        late = (("",), rows, (None, None, (0,)))
        none = (("",), rows, (None, None, None))
        claim = ("first", late, none, (0, 0))
        self.check(("shown", claim, ((), (0,), (1,))), None)
        self.check(("shown", claim, ((), (0,), (2,))), ("open", 0, 1))
        self.check(("shown", claim, ((), (0,), (1,), (2,))), None)
        self.check(("shown", ("first", late, none, (0, 2)), ((), (0,), (1,))), ("open", 1, 0))
        self.check(("shown", ("first", late, none, (0, 2)), ((), (0,), (1,), (0, 0))), ("differ", 3))
        self.check(("shown", ("alike", none, none), ((), (0,), (2,), (0, 0), (2, 0))), None)
        self.check(("shown", ("alike", none, none), ((), (0,), (2,), (0, 0), (0, 2))), ("open", 2, 0))

    def test_first_gone_and_late(self):
        claim = ("first", SHORT, (SHORT[0], SHORT[1], (None, (0, "b"))), (0,))
        self.check(("shown", claim, ((),)), None)
        self.check(("shown", claim, ((), (0,))), ("late", 1))
        shallow = (("",), ((None, (1, ((0,),))), (None, None)), (None, (0,)))
        other = (shallow[0], shallow[1], (None, None))
        self.check(("shown", ("first", shallow, other, (1,)), ((),)), None)
        self.check(("shown", ("first", shallow, other, (1,)), ((), (0,))), ("gone", 1))
        self.check(("shown", ("first", shallow, other, (1,)), ((), (0,), (1,))), ("late", 2))

    def test_tests(self):
        claim = ("tests", ONE, TWO, 2)
        self.check(("shown", claim, ((), (0,))), None)
        self.check(("shown", claim, ((), (0, 0))), None)
        self.check(("shown", claim, ((),)), ("count",))
        self.check(("shown", claim, chain(3)), ("count",))
        self.check(("shown", ("tests", ONE, TWO, 3), chain(3)), ("double", 2))
        self.check(("shown", ("tests", ONE, TWO, 1), ((),)), ("open", 0, 0))
        self.check(("shown", ("tests", SHORT, SHORT, 3), chain(3)), ("gone", 2))
        self.check(("shown", ("tests", SHORT, SHORT, 2), chain(3)), ("gone", 2))
        self.check(("broken", ("tests", ONE, TWO, 3), ("fewer", ((), (0,)))), None)
        self.check(("broken", claim, ("fewer", ((), (0,)))), ("count",))
        self.check(("broken", claim, ("fewer", ((),))), ("open", 0, 0))
        self.check(("broken", ("tests", ONE, TWO, 4), ("fewer", chain(3))), None)
        self.check(("broken", ("tests", ONE, TWO, 1), ("more", ((), (0,)))), None)
        self.check(("broken", ("tests", ONE, TWO, 1), ("more", ((),))), ("count",))
        self.check(("broken", ("tests", ONE, TWO, 2), ("more", chain(3))), ("double", 2))
        self.check(("broken", ("tests", ONE, TWO, 1), ("more", chain(4))), ("double", 2))
        self.check(("broken", ("tests", SHORT, SHORT, 1), ("more", chain(3))), ("gone", 2))
        self.check(("broken", ("tests", SHORT, SHORT, 4), ("fewer", chain(3))), ("gone", 2))
        for paper in (("fewer",), ((),), ("less", ((),)), ("more", ((),), 0), (["more"], ((),)), ("more", (0,))):
            self.check(("broken", claim, paper), ("paper",))

    def test_fine(self):
        claim = ("fine", FORK, (), 3)
        self.check(("shown", claim, ((), (0,), (2,))), None)
        self.check(("shown", claim, ((), (1,), (2,))), None)
        # The tests are closed, but not fine.
        self.check(("shown", claim, ((), (0,), (1,))), ("open", 0, 2))
        self.check(("shown", ("fine", FORK, (), 4), ((), (0,), (1,), (2,))), ("double", 3))
        self.check(("shown", claim, ((), (0,))), ("count",))
        self.check(("shown", claim, ((), (0,), (0, 0))), ("gone", 2))
        self.check(("shown", ("fine", FORK, (1,), 1), ((),)), None)
        self.check(("shown", ("fine", FORK, (1,), 1), ((), (0,))), ("gone", 1))
        self.check(("broken", ("fine", FORK, (), 4), ("fewer", ((), (0,), (2,)))), None)
        self.check(("broken", ("fine", FORK, (), 4), ("fewer", ((), (0,), (1,)))), ("open", 0, 2))
        self.check(("broken", ("fine", FORK, (), 3), ("fewer", ((), (0,), (2,)))), ("count",))
        self.check(("broken", ("fine", FORK, (), 5), ("fewer", ((), (0,), (1,), (2,)))), None)
        self.check(("broken", ("fine", FORK, (), 2), ("more", ((), (0,), (1,)))), None)
        self.check(("broken", ("fine", FORK, (), 2), ("more", ((), (0,), (1,), (2,)))), ("double", 3))
        self.check(("broken", ("fine", FORK, (), 3), ("more", ((), (0,), (1,)))), ("count",))
        self.check(("broken", ("fine", FORK, (), 1), ("more", ((), (0,), (0, 0)))), ("gone", 2))

    def test_sure(self):
        self.check(("shown", ("sure", FORK, (), ""), ((), (0,), (2,))), None)
        self.check(("shown", ("sure", FORK, (), "a"), ((), (0,), (2,))), ("text",))
        self.check(("shown", ("sure", FORK, (), "a"), ((), (0,), (1,))), ("open", 0, 2))
        self.check(("shown", ("sure", FORK, (), ""), ((), (0,), (0, 0))), ("gone", 2))
        self.check(("shown", ("sure", FORK, (), ""), ((), (0,), (1,), (2,))), None)
        self.check(("shown", ("sure", FORK, (), None), ((), (0,), (2,))), ("text",))
        self.check(("broken", ("sure", FORK, (), ""), ((), (0,), (2,))), ("text",))
        self.check(("broken", ("sure", FORK, (), "a"), ((), (0,), (2,))), None)
        self.check(("broken", ("sure", FORK, (), "a"), ((), (0,), (1,))), ("open", 0, 2))
        self.check(("broken", ("sure", FORK, (), None), ((), (0,), (2,))), None)
        self.check(("shown", ("sure", SILENT, (), None), ((), (0,))), None)
        self.check(("broken", ("sure", SILENT, (), None), ((), (0,))), ("text",))
        self.check(("broken", ("sure", SILENT, (), ""), ((), (0,))), None)


class TablesTest(Checking):
    def test_meets(self):
        claim = ("meets", ONE, EVEN)
        self.check(("shown", claim, (0,)), None)
        self.check(("shown", claim, ()), ("text",))
        self.check(("shown", ("meets", SILENT, EVEN), ()), ("word",))
        self.check(("shown", ("meets", SHORT, EVEN), (0, 0)), ("word",))
        empty = ((), ((1,), (1,)), (0,))
        claim = ("meets", ONE, empty)
        rows = ((0, ((0, 1),)), (0, ((1, 1),)))
        self.check(("broken", claim, rows), None)
        self.check(("broken", claim, ((0, ((0, 0),)),) + rows), None)
        self.check(("broken", claim, ()), ("start",))
        self.check(("broken", claim, rows[1:]), ("start",))
        self.check(("broken", claim, rows[:1]), ("step", 0, 0))
        odd = (EVEN[0], EVEN[1], (1,))
        self.check(("broken", ("meets", ONE, odd), ((0, ((0, 1),)), (0, ((1, 0),)))), ("end", 0))
        self.check(("broken", ("meets", ONE, EVEN), ((0, ((0, 1),)), (0, ((1, 0),)))), ("end", 1))
        self.check(("broken", ("meets", ONE, EVEN), ((0, ((0, 1),)),)), ("step", 0, 0))
        self.check(("broken", ("meets", ONE, ((), ((0,),), (0,))), ((0, ((0,),)),)), ("end", 0))
        for table in (
            rows[::-1], rows + rows[1:], list(rows), (list(rows[0]), rows[1]), ((0, ((0, 2),)),), ((1, ((0, 1),)),),
            ((0, ((0, True),)),), ((False, ((0, 1),)),), ((0, ((0, 1), (0, 1))),), ((0, ()),), ((0, ((0,),)),),
            ((0, ((0, 1, 1),)),), ((0, [(0, 1)]),), ((0, ([0, 1],)),), ((0,),), ((0, ((0, 1),), 0),),
        ):
            self.check(("broken", claim, table), ("paper",))

    def test_meets_where_kinds_differ(self):
        # Kind 0 stays, kind 1 puts an a.
        two = (("",), (((0, ((0,),)), (0, ((0, "a"),))), (None, None)), ((0, "a"), None))
        form = ((), ((1,), (2,), (2,)), (0,))
        first = (0, ((0, 1, 2),))
        rows = (first, (0, ((1, 2, 2),)), (0, ((2, 2, 2),)))
        self.check(("broken", ("meets", two, form), rows), None)
        self.check(("broken", ("meets", two, form), rows[:1]), ("step", 0, 1))
        self.check(("broken", ("meets", two, form), rows[:2]), ("step", 1, 1))
        self.check(("broken", ("meets", two, (form[0], form[1], (1,))), rows), ("end", 0))
        self.check(("broken", ("meets", two, (form[0], form[1], (2,))), rows), ("end", 1))
        self.check(("broken", ("meets", two, (form[0], form[1], (2,))), rows[:2]), ("step", 1, 1))
        spare = ((1, ((0, 0, 0),)),)
        self.check(("broken", ("meets", two, form), rows + spare), None)

    def test_count_tables(self):
        claim = ("written", PAIR, "aa", 4)
        rows = (
            (0, ((0,),), 0, 0),
            (0, ((1, ""),), 4, 2),
            (0, ((1, "a"),), 2, 1),
            (0, ((1, "aa"),), 1, 0),
        )
        self.check(("shown", claim, rows), None)
        self.check(("shown", ("written", PAIR, "aa", 3), rows), ("count",))
        self.check(("broken", ("written", PAIR, "aa", 3), ("table", rows)), None)
        self.check(("broken", ("written", PAIR, "aa", None), ("table", rows)), None)
        self.check(("broken", claim, ("table", rows)), ("count",))
        self.check(("shown", claim, rows[:1]), ("start",))
        self.check(("shown", claim, ()), ("start",))
        self.check(("shown", claim, rows[1:]), ("step", 2, 0))
        self.check(("shown", claim, rows[:2] + rows[3:]), ("step", 1, 0))
        self.check(("shown", claim, rows[:3] + ((0, ((1, "aa"),), 2, 0),)), ("sum", 2))
        self.check(("shown", claim, ((0, ((0,),), 1, 0),) + rows[1:]), ("sum", 0))
        self.check(("shown", claim, rows[:1] + ((0, ((1, ""),), 5, 2),) + rows[2:]), ("sum", 1))
        self.check(("shown", claim, rows[:1] + ((0, ((1, ""),), 4, 1),) + rows[2:]), ("height", 1))
        self.check(("shown", claim, rows[:1] + ((0, ((1, ""),), 4, 5000),) + rows[2:]), None)
        self.check(("shown", claim, rows[:2] + ((0, ((1, "a"),), 2, 2),) + rows[3:]), ("height", 1))
        self.check(("shown", claim, ((0, ((0,),), 0, 5000),) + rows[1:]), None)
        self.check(("shown", ("written", PAIR, "aa", 3), rows[:2] + ((0, ((1, "a"),), 2, 2),) + rows[3:]), ("height", 1))
        self.check(("shown", claim, rows[:1] + ((0, ((1, ""),), 5, 1),) + rows[2:]), ("sum", 1))
        wrong = (
            (0, ((1, ""),), 4, 5001), (0, ((1, ""),), 4, -1), (0, ((1, ""),), -1, 2), (0, ((1, ""),), 10 ** 60 + 1, 2),
            (0, ((1, ""),), True, 2), (0, ((1, ""),), 4, True), (0, ((1, ""),), 4), (0, ((1, "b"),), 4, 2),
            (0, ((1, ""), (0,)), 4, 2), (0, ((2, ""),), 4, 2), (0, ((True, ""),), 4, 2), (0, ((1,),), 4, 2),
            (0, (("",),), 4, 2), (1, ((1, ""),), 4, 2), (False, ((1, ""),), 4, 2), (0, [(1, "")], 4, 2),
            (0, ([1, ""],), 4, 2), [0, ((1, ""),), 4, 2], (0, ((1, None),), 4, 2), (0, ((1, "aaa"),), 4, 2),
        )
        for row in wrong:
            self.check(("shown", claim, rows[:1] + (row,) + rows[2:]), ("paper",))
        self.check(("shown", claim, ((0, ((False,),), 0, 0),) + rows[1:]), ("paper",))
        self.check(("shown", claim, rows[::-1]), ("paper",))
        self.check(("shown", claim, rows[:1] + rows), ("paper",))
        self.check(("shown", claim, list(rows)), ("paper",))
        self.check(("shown", claim, ("table", rows)), ("paper",))
        self.check(("broken", claim, rows), ("paper",))

    def test_counts_that_would_go_round(self):
        # Two places in a ring may not give themselves a count.
        rows = ((0, ((0,),), 0, 0), (0, ((1, ""),), 1, 1), (0, ((1, "a"),), 1, 0))
        claim = ("written", LOOP, "a", 1)
        self.check(("shown", claim, rows), ("sum", 1))
        still = (("a",), (((0, ((0,),)),),), (None,))
        self.check(("shown", ("written", still, "a", 7), ((0, ((1, "a"),), 7, 0),)), ("height", 0))
        self.check(("shown", ("written", still, "a", 0), ((0, ((1, "a"),), 0, 0),)), None)

    def test_endlessly_many(self):
        claim = ("written", LOOP, "a", None)
        self.check(("shown", claim, ((1,), (0,), ())), None)
        self.check(("shown", claim, ((), (0, 0), (1,))), None)
        self.check(("shown", claim, ((1,), (0,), (1,))), ("word",))
        self.check(("shown", claim, ((1,), (), ())), ("empty",))
        self.check(("shown", claim, ((), (), (1, 1))), ("word",))
        self.check(("shown", claim, ((), (1,), ())), ("text",))
        self.check(("shown", claim, ((1,), (0,))), ("paper",))
        self.check(("shown", claim, ((1,), (0,), (2,))), ("paper",))
        self.check(("shown", claim, [(1,), (0,), ()]), ("paper",))
        self.check(("broken", claim, ("endless", ((1,), (0,), ()))), ("paper",))
        self.check(("broken", ("written", LOOP, "a", 5), ("endless", ((1,), (0,), ()))), None)
        self.check(("broken", ("written", LOOP, "a", 5), ("endless", ((1,), (), ()))), ("empty",))
        walk = (("a",), (((1, ((0,),)),), ((0, ((0,),)),)), ((0,), (0,)))
        self.check(("shown", ("written", walk, "a", None), ((), (0, 0), ())), None)
        self.check(("shown", ("written", walk, "a", None), ((), (0,), ())), ("state",))
        self.check(("shown", ("written", walk, "b", None), ((), (0,), ())), ("word",))
        swap = (("a", "a"), (((0, ((1,), (0,))),),), ((0,),))
        self.check(("shown", ("written", swap, "a", None), ((), (0, 0), ())), None)
        self.check(("shown", ("written", swap, "a", None), ((), (0,), ())), ("fate",))
        turn = (("a", "b"), (((0, ((1,), (0,))),),), ((0, 1),))
        self.check(("shown", ("written", turn, "ab", None), ((), (0, 0), ())), None)
        self.check(("shown", ("written", turn, "ab", None), ((), (0,), (0,))), ("text",))
        # What does not come into the text may change.
        grow = (("", "a"), (((0, ((0, "z"), (1,))),),), ((1,),))
        self.check(("shown", ("written", grow, "a", None), ((), (0,), ())), None)

    def test_surplus(self):
        claim = ("surplus", ONE, TWO, ONES, 0)
        table = (((0, 0),), ROWS)
        self.check(("shown", claim, ((), table)), None)
        self.check(("shown", claim, ((0, 0), table)), None)
        self.check(("shown", ("surplus", ONE, TWO, ONES, 1), ((), table)), ("sum",))
        self.check(("shown", ("surplus", SHORT, TWO, ONES, 0), ((), table)), ("word",))
        self.check(("shown", claim, ((), (((0, 0),), ()))), ("end", 0))
        low = (((0, 0),), ((0, (1,), 0, (1,), -1),))
        high = (((0, 0),), ((0, (1,), 0, (1,), 1),))
        spare = (((0, 0),), ((0, (0,), 0, (0,), 1),) + ROWS)
        self.check(("shown", claim, ((), low)), ("end", 0))
        self.check(("shown", claim, ((), high)), ("bound",))
        self.check(("shown", claim, ((), spare)), ("bound",))
        self.check(("shown", ("surplus", ONE, TWO, ONES, 1), ((), low)), ("sum",))
        self.check(("shown", claim, table), ("paper",))
        self.check(("shown", claim, ((), table, ())), ("paper",))
        self.check(("shown", claim, ((1,), table)), ("paper",))
        self.check(("shown", claim, ("less", table)), ("paper",))
        self.check(("broken", ("surplus", ONE, TWO, ONES, 1), ("less", table)), None)
        self.check(("broken", claim, ("less", table)), ("bound",))
        self.check(("broken", ("surplus", ONE, TWO, ONES, 2), ("less", high)), None)
        self.check(("broken", ("surplus", ONE, TWO, ONES, 1), ("less", high)), ("bound",))
        self.check(("broken", ("surplus", ONE, TWO, ONES, 2), ("less", low)), ("end", 0))
        self.check(("broken", ("surplus", ONE, TWO, ONES, None), ("less", table)), ("paper",))
        self.check(("broken", ("surplus", ONE, TWO, ONES, -1), ("more", (0,))), None)
        self.check(("broken", claim, ("more", (0,))), ("sum",))
        self.check(("broken", ("surplus", ONE, TWO, ONES, None), ("more", (0,))), None)
        self.check(("broken", ("surplus", SHORT, TWO, ONES, -1), ("more", ())), ("word",))
        self.check(("broken", ("surplus", SHORT, TWO, ONES, None), ("more", ())), ("word",))
        self.check(("broken", ("surplus", ONE, LONE, ONES, 7), ("endless", ((), (0,), ()))), None)
        self.check(("broken", ("surplus", ONE, LONE, ONES, None), ("endless", ((), (0,), ()))), None)
        self.check(("broken", ("surplus", ONE, TWO, ONES, 7), ("endless", ((), (0,), ()))), ("weight",))

    def test_surplus_with_each_fault_of_a_table(self):
        walk = (("",), (((1, ((0, "a"),)),), ((0, ((0, "a"),)),)), ((0,), (0,)))
        rows = ((0, (1,), 0, (1,), 0), (1, (1,), 0, (1,), 0))
        pairs = ((0, 0), (1, 0))
        for table, fault in (
            ((pairs, rows), None), ((pairs[:1], rows[:1]), ("pair", 0, 0)), ((pairs, rows[:1]), ("end", 1)),
            ((pairs, (rows[0], (1, (1,), 0, (1,), 5))), ("step", 1, 0)), ((pairs[1:], rows[1:]), ("paper",)),
        ):
            self.check(("shown", ("surplus", walk, LONE, ONES, 0), ((0,), table)), fault)
            self.check(("broken", ("surplus", walk, LONE, ONES, 1), ("less", table)), fault)
            # What is wrong with the word comes first.
            told = fault if fault == ("paper",) else ("sum",)
            self.check(("shown", ("surplus", walk, LONE, ONES, 1), ((0,), table)), told)
        # Of several faults the first one is told: pairs, then ends, then steps, then the bound.
        self.check(("broken", ("surplus", walk, LONE, ONES, 0), ("less", (pairs[:1], ()))), ("pair", 0, 0))
        self.check(("broken", ("surplus", walk, LONE, ONES, 0), ("less", (pairs, ((0, (1,), 0, (1,), 7),)))), ("end", 1))
        self.check(
            ("broken", ("surplus", walk, LONE, ONES, 0), ("less", (pairs, (rows[0], (1, (1,), 0, (1,), 7))))),
            ("step", 1, 0),
        )

    def test_surplus_of_no_words(self):
        claim = ("surplus", SILENT, ONE, ONES, None)
        self.check(("shown", claim, (((0, 0),), ())), None)
        self.check(("shown", claim, (((0, 0),), ((0, (0,), 0, (0,), 0),))), ("bound",))
        self.check(("shown", claim, (((0, 0),), ((0, (1,), 0, (1,), 0),))), ("bound",))
        self.check(("shown", ("surplus", ONE, SILENT, ONES, None), (((0, 0),), ((0, (1,), 0, (1,), 0),))), ("step", 0, 0))
        self.check(("shown", claim, ((), (((0, 0),), ()))), ("paper",))
        self.check(("shown", ("surplus", ONE, TWO, ONES, None), (((0, 0),), ())), ("end", 0))
        self.check(("broken", ("surplus", SILENT, ONE, ONES, 0), ("less", (((0, 0),), ()))), None)

    def test_height_tables(self):
        walk = (("",), (((1, ((0, "a"),)),), ((0, ((0, "a"),)),)), ((0,), (0,)))
        rows = ((0, (1,), 0, (1,), 0), (1, (1,), 0, (1,), 0))
        pairs = ((0, 0), (1, 0))
        claim = ("endless", walk, LONE, ONES)
        self.check(("broken", claim, (pairs, rows)), None)
        self.check(("broken", claim, (pairs[:1], rows[:1])), ("pair", 0, 0))
        self.check(("broken", claim, (pairs, rows[:1])), ("end", 1))
        self.check(("broken", claim, (pairs, ((0, (1,), 0, (1,), 1), rows[1]))), ("step", 0, 0))
        self.check(("broken", claim, (pairs, (rows[0], (1, (1,), 0, (1,), 5)))), ("step", 1, 0))
        self.check(("broken", claim, (pairs, ((0, (0,), 0, (1,), 0),) + rows)), ("step", 0, 0))
        self.check(("broken", claim, (pairs, ((0, (0,), 0, (0,), 9),) + rows)), ("step", 0, 0))
        self.check(("broken", claim, (pairs, ((0, (0,), 0, (0,), 9),) + rows[:1] + ((1, (0,), 0, (0,), 9), rows[1]))), None)
        self.check(("broken", claim, (pairs[:1], rows)), ("paper",))
        self.check(("broken", claim, (pairs[1:], rows[1:])), ("paper",))
        self.check(("broken", claim, (pairs[::-1], rows)), ("paper",))
        self.check(("broken", claim, (pairs, rows[::-1])), ("paper",))
        self.check(("broken", claim, (pairs, rows + rows[1:])), ("paper",))
        self.check(("broken", claim, (pairs, (rows[0], (1, (1,), 1, (1,), 0)))), ("paper",))
        self.check(("broken", claim, (pairs, (rows[0], (1, (1,), 0, (2,), 0)))), ("paper",))
        self.check(("broken", claim, (pairs, (rows[0], (1, (1,), 0, (1,), 10 ** 9 + 1)))), ("paper",))
        self.check(("broken", claim, (pairs, (rows[0], (1, (1,), 0, (1,), 10 ** 9)))), ("step", 1, 0))
        # The least kind is told, and the first row.
        two = (("",), (((0, ((),)), (0, ((0, "a"),))),), ((0,),))
        other = (("",), (((0, ((0,),)), (0, ((0,),))),), ((0,),))
        self.check(("broken", ("endless", two, other, ONES), (((0, 0),), ROWS)), ("step", 0, 0))
        still = (two[0], (((0, ((0,),)),) + two[1][0][1:],), two[2])
        self.check(("broken", ("endless", still, other, ONES), (((0, 0),), ROWS)), ("step", 0, 1))

    def test_endless(self):
        claim = ("endless", ONE, LONE, ONES)
        self.check(("shown", claim, ((), (0,), ())), None)
        self.check(("shown", claim, ((0,), (0, 0), (0,))), None)
        self.check(("shown", claim, ((0,), (), (0,))), ("weight",))
        self.check(("shown", ("endless", LONE, ONE, ONES), ((), (0,), ())), ("weight",))
        self.check(("shown", ("endless", SHORT, ONE, ONES), ((), (0,), (0,))), ("word",))
        self.check(("shown", ("endless", SHORT, ONE, ONES), ((), (0,), ())), ("state",))
        self.check(("shown", claim, (((), (0,), ()), ())), ("paper",))
        swap = (("", ""), (((0, ((1, "a"), (0, "b"))),),), ((0,),))
        self.check(("shown", ("endless", swap, LONE, ONES), ((), (0, 0), ())), ("weight",))
        self.check(("shown", ("endless", swap, LONE, (0, 9) + (0,) * 24), ((), (0,), ())), ("state",))
        self.check(("shown", ("endless", swap, LONE, (0, 9) + (0,) * 24), ((), (0, 0), ())), None)


class ManyTest(unittest.TestCase):
    def test_what_decide_returns_is_accepted(self):
        maker = Maker(101)
        for _ in range(60):
            for name in NAMES:
                found = decide(claim_of(maker, name))
                self.assertIsNone(first_fault(found), found)
                other = ({"shown": "broken", "broken": "shown"}[found[0]],) + found[1:]
                self.assertIsNotNone(first_fault(other))

    def test_one_thing_changed_at_any_depth(self):
        maker = Maker(102)
        seen = {}
        for _ in range(25):
            for name in NAMES:
                found = decide(claim_of(maker, name))
                if len(found[2]) > 12 and name in ("alike", "within", "first", "tests", "fine", "sure", "exchange"):
                    continue
                for _ in range(5):
                    for changed in (
                        mutated(maker.random, found), found[:2] + (mutated(maker.random, found[2]),),
                        retold(maker.random, found), (found[0], claim_of(maker, name), found[2]),
                    ):
                        fault = judge(changed)
                        self.assertEqual(first_fault(changed), fault, changed)
                        told = (name, fault and fault[0])
                        seen[told] = seen.get(told, 0) + 1
        for name in NAMES:
            self.assertGreater(seen[name, None], 0)
            self.assertGreater(seen[name, "paper"], 0)
        self.assertGreater(len(seen), 50)

    def test_never_both_verdicts(self):
        # Papers for one verdict that are accepted, after changes too, are for the right one.
        maker = Maker(103)
        for _ in range(40):
            for name in NAMES:
                found = decide(claim_of(maker, name))
                for _ in range(6):
                    verdict, claim, paper = retold(maker.random, found)
                    for other in ("shown", "broken"):
                        if first_fault((other, claim, paper)) is None:
                            self.assertEqual(other, verdict, claim)

    def test_writers_at_their_bounds(self):
        maker = Maker(104)
        for _ in range(3):
            first = maker.writer(4, 3, 2, 24, "abz", 0)
            for second in (exchanged(first), maker.writer(4, 3, 2, 24, "abz", 0)):
                word = tuple(maker.random.randrange(3) for _ in range(60))
                for claim in (
                    ("alike", first, second), ("within", first, second), ("first", first, second, word),
                    ("tests", first, second, 20), ("fine", first, word, 20), ("sure", first, word, "a"),
                    ("surplus", first, second, ONES, None), ("endless", first, second, ONES),
                    ("exchange", first, (0, 1, 2, 0), (0, 1, 0, 2)),
                ):
                    self.assertIsNone(first_fault(decide(claim)))

    def test_long_words_in_tests(self):
        maker = Maker(105)
        writer = maker.writer(4, 3, 2, 24, "abz", 0)
        words = sorted({tuple(maker.random.randrange(3) for _ in range(300)) for _ in range(20)})
        paper = ((),) + tuple(words)
        self.assertIn(first_fault(("shown", ("alike", writer, exchanged(writer)), paper)), (None, ("open", 0, 0)))


if __name__ == "__main__":
    unittest.main()
