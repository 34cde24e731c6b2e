import copy
import unittest

from cases import NAMES, STRANGE, claim_of, mutated
from fewtests.claims import decide, require_claim
from fewtests.errors import InvalidClaim
from fewtests.exchange import exchangeable
from fewtests.meets import first_accepted, how_many_for
from fewtests.parting import alike, first_difference, within
from fewtests.runs import differ, text_for
from fewtests.suites import fewest_tests
from fewtests.sure import fine_tests, sure_text
from fewtests.surplus import greatest_surplus
from judge import judge, valid
from reference import FORK, Maker, ONE, THREE, TWO, exchanged, words_up_to

ONES = (1,) * 26
EVEN = (("a",), ((1, 0), (0, 1)), (0,))
SILENT = (("",), (((0, ((0, "a"),)),),), (None,))
BIG_STATES = (("",), ((None,),) * 5, (None,) * 5)
BIG_LETTERS = (("a" * 25,), ((None,),), (None,))
# Kind 1 is refused.
TWO_KINDS = (("",), (((0, ((0, "a"),)), None),), ((0,),))
CLAIMS = (
    ("alike", ONE, TWO),
    ("within", ONE, TWO),
    ("first", ONE, THREE, (0, 0)),
    ("tests", ONE, TWO, 2),
    ("fine", ONE, (0,), 2),
    ("sure", ONE, (0,), "ab"),
    ("meets", ONE, EVEN),
    ("written", ONE, "aba", 1),
    ("surplus", ONE, TWO, ONES, 0),
    ("endless", ONE, TWO, ONES),
    ("exchange", TWO_KINDS, (0, 1), (1, 0)),
)


def count_parts(value):
    if isinstance(value, tuple):
        return 1 + sum(count_parts(part) for part in value)
    return 1


class RequireTest(unittest.TestCase):
    def check(self, claim, right):
        if right:
            self.assertIsNone(require_claim(claim), claim)
        else:
            for act in (require_claim, decide):
                with self.assertRaises(InvalidClaim, msg=claim):
                    act(claim)

    def test_claims_as_they_are(self):
        for claim in CLAIMS:
            self.check(claim, True)
            self.assertIsNone(require_claim(claim=claim))

    def test_values_of_every_kind(self):
        for value in STRANGE:
            self.check(value, False)
            for claim in CLAIMS:
                self.check((value,) + claim[1:], False)
        for claim in CLAIMS:
            self.check(list(claim), False)
            self.check(claim[:-1], False)
            self.check(claim + (None,), False)
            self.check(claim[1:], False)
            self.check((claim[0].upper(),) + claim[1:], False)
            self.check(((claim[0],),) + claim[1:], False)

    def test_each_part_changed(self):
        for claim in CLAIMS:
            for at in range(1, len(claim)):
                for value in STRANGE:
                    changed = claim[:at] + (value,) + claim[at + 1:]
                    self.check(changed, valid(changed))

    def test_other_names_with_the_same_parts(self):
        for claim in CLAIMS:
            for name in NAMES:
                changed = (name,) + claim[1:]
                self.check(changed, valid(changed))

    def test_writers(self):
        for claim in CLAIMS:
            for at in (1, 2):
                for writer in (BIG_STATES, BIG_LETTERS, list(ONE), ONE[:2], (("",), ((None,) * 4,), (None,))):
                    changed = claim[:at] + (writer,) + claim[at + 1:]
                    self.check(changed, False)
        for name in ("alike", "within"):
            self.check((name, ONE, TWO_KINDS), False)
            self.check((name, TWO_KINDS, ONE), False)
            self.check((name, TWO_KINDS, TWO_KINDS), True)
        self.check(("first", ONE, TWO_KINDS, ()), False)
        self.check(("tests", ONE, TWO_KINDS, 2), False)
        self.check(("surplus", ONE, TWO_KINDS, ONES, 2), False)
        self.check(("endless", ONE, TWO_KINDS, ONES), False)

    def test_numbers(self):
        for claim in (CLAIMS[3], CLAIMS[4]):
            for n, right in ((1, True), (1000, True), (0, False), (1001, False), (-1, False), (True, False)):
                self.check(claim[:3] + (n,), right)
            for n in (None, "1", (1,), [1]):
                self.check(claim[:3] + (n,), False)
        for n, right in ((None, True), (0, True), (10 ** 60, True), (10 ** 60 + 1, False), (-1, False), (False, False)):
            self.check(("written", ONE, "a", n), right)
        for n, right in ((None, True), (10 ** 9, True), (-10 ** 9, True), (10 ** 9 + 1, False), (-10 ** 9 - 1, False)):
            self.check(("surplus", ONE, TWO, ONES, n), right)
        self.check(("surplus", ONE, TWO, ONES, True), False)
        self.check(("surplus", ONE, TWO, ONES, "0"), False)

    def test_words(self):
        self.check(("first", ONE, THREE, (0,) * 1000), True)
        self.check(("first", ONE, THREE, (0,) * 1001), False)
        self.check(("first", TWO_KINDS, TWO_KINDS, (1, 1, 1)), True)
        for word in ((1,), (-1,), (False,), [0], "0", None, (None,), ((0,),)):
            self.check(("first", ONE, THREE, word), False)
            self.check(("fine", ONE, word, 2), False)
            self.check(("sure", ONE, word, None), False)
            self.check(("exchange", ONE, word, ()), False)
            self.check(("exchange", ONE, (), word), False)
        for name, last in (("fine", 2), ("sure", "")):
            self.check((name, ONE, (0,) * 60, last), True)
            self.check((name, ONE, (0,) * 61, last), False)
            self.check((name, TWO_KINDS, (0, 0), last), True)
            self.check((name, TWO_KINDS, (0, 1), last), False)
        self.check(("exchange", ONE, (0,) * 4, (0,) * 4), True)
        self.check(("exchange", ONE, (0,) * 5, (0,)), False)
        self.check(("exchange", ONE, (0,), (0,) * 5), False)

    def test_texts(self):
        self.check(("sure", ONE, (), None), True)
        self.check(("sure", ONE, (), "a" * 20000), True)
        for text in ("a" * 20001, "A", " ", "\u00e4", 1, ("a",), [], False):
            self.check(("sure", ONE, (), text), False)
        self.check(("written", ONE, "abcd", 1), True)
        for text in ("abcde", "A", None, 1, ("a",)):
            self.check(("written", ONE, text, 1), False)

    def test_forms(self):
        three = (("a",), ((0, 1), (1, 2), (2, 0)), ())
        four = (("a",), ((0, 1), (1, 2), (2, 0), (0, 0)), ())
        pair = (("", ""), (((0, ((0,), (1,))),),), ((0,),))
        self.check(("meets", pair, three), True)
        self.check(("meets", ONE, four), True)
        self.check(("meets", pair, four), False)
        for form in ((("b", "a", "b"), three[1], ()), (("a",), three[1], (3,)), (("a",), ((0,),), ()), list(EVEN)):
            self.check(("meets", ONE, form), False)

    def test_prices(self):
        right = ((0,) * 26, (9,) * 26, (-9,) * 26)
        wrong = ((0,) * 25, (0,) * 27, (10,) * 26, (-10,) * 26, (True,) * 26, [0] * 26, (None,) * 26, 0, "a" * 26)
        for prices in right + wrong:
            self.check(("surplus", ONE, TWO, prices, None), prices in right)
            self.check(("endless", ONE, TWO, prices), prices in right)
        self.check(("endless", ONE, TWO, (0,) * 25 + (10,)), False)
        self.check(("endless", ONE, TWO, (0,) * 25 + (True,)), False)

    def test_many_changed(self):
        maker = Maker(91)
        seen = {True: 0, False: 0}
        for _ in range(20):
            for name in NAMES:
                claim = claim_of(maker, name)
                self.check(claim, True)
                for _ in range(6):
                    changed = mutated(maker.random, claim)
                    right = valid(changed)
                    seen[right] += 1
                    if right:
                        self.assertIsNone(require_claim(changed))
                    else:
                        self.check(changed, False)
        self.assertGreater(min(seen.values()), 100)


class DecideTest(unittest.TestCase):
    def decided(self, claim, verdict):
        kept = copy.deepcopy(claim)
        found = decide(claim)
        self.assertIsInstance(found, tuple)
        self.assertEqual(found[:2], (verdict, claim))
        self.assertEqual(claim, kept)
        self.assertEqual(decide(claim=claim), found)
        self.assertIsNone(judge(found), found)
        self.assertLessEqual(count_parts(found), 300000)
        return found[2]

    def test_example(self):
        self.assertEqual((decide(("alike", ONE, TWO))[0], decide(("tests", ONE, TWO, 3))[0]), ("shown", "broken"))

    def test_alike_and_within(self):
        self.assertEqual(self.decided(("alike", ONE, TWO), "shown"), ((), (0,)))
        self.assertEqual(self.decided(("alike", ONE, THREE), "broken"), (0, 0))
        self.assertEqual(self.decided(("within", ONE, TWO), "shown"), ((), (0,)))
        self.assertEqual(self.decided(("within", ONE, THREE), "broken"), (0, 0))
        self.decided(("within", SILENT, ONE), "shown")
        self.assertEqual(self.decided(("within", ONE, SILENT), "broken"), ())
        self.assertEqual(self.decided(("alike", SILENT, ONE), "broken"), ())

    def test_first(self):
        self.assertEqual(self.decided(("first", ONE, THREE, (0, 0)), "shown"), ((), (0,)))
        self.assertEqual(self.decided(("first", ONE, THREE, (0,)), "broken"), ("same",))
        self.assertEqual(self.decided(("first", ONE, THREE, (0, 0, 0)), "broken"), ("earlier", (0, 0)))
        self.assertEqual(self.decided(("first", ONE, TWO, (0, 0)), "broken"), ("same",))
        self.assertEqual(self.decided(("first", ONE, SILENT, ()), "shown"), ())
        self.assertEqual(self.decided(("first", ONE, SILENT, (0,)), "broken"), ("earlier", ()))
        self.assertEqual(self.decided(("first", ONE, ONE, ()), "broken"), ("same",))
        self.assertEqual(self.decided(("first", ONE, SILENT, (0,) * 1000), "broken"), ("earlier", ()))

    def test_tests_and_fine(self):
        self.assertEqual(self.decided(("tests", ONE, TWO, 2), "shown"), ((), (0,)))
        self.assertEqual(self.decided(("tests", ONE, TWO, 3), "broken"), ("fewer", ((), (0,))))
        self.assertEqual(self.decided(("tests", ONE, TWO, 1), "broken")[0], "more")
        self.assertEqual(self.decided(("tests", ONE, TWO, 1000), "broken")[0], "fewer")
        self.assertEqual(self.decided(("fine", FORK, (), 3), "shown"), ((), (0,), (2,)))
        self.assertEqual(self.decided(("fine", FORK, (), 2), "broken")[0], "more")
        self.assertEqual(self.decided(("fine", FORK, (), 4), "broken")[0], "fewer")
        self.assertEqual(self.decided(("fine", FORK, (1,), 1), "shown"), ((),))
        self.assertEqual(self.decided(("fine", SILENT, (0,) * 60, 2), "shown"), ((), (0,)))

    def test_sure(self):
        self.decided(("sure", FORK, (), ""), "shown")
        self.decided(("sure", FORK, (), "a"), "broken")
        self.decided(("sure", FORK, (), None), "broken")
        self.decided(("sure", FORK, (1,), "ab"), "shown")
        self.decided(("sure", SILENT, (), None), "shown")
        self.decided(("sure", SILENT, (), ""), "broken")
        self.decided(("sure", ONE, (0,), "aba"), "shown")
        self.decided(("sure", ONE, (0,), "ab"), "broken")

    def test_meets(self):
        self.assertEqual(self.decided(("meets", ONE, EVEN), "shown"), (0,))
        empty = ((), ((1,), (1,)), (0,))
        self.assertEqual(self.decided(("meets", ONE, empty), "broken"), ((0, ((0, 1),)), (0, ((1, 1),))))
        self.decided(("meets", SILENT, EVEN), "broken")

    def test_written(self):
        pair = (("",), (((0, ((0, "a"),)), (0, (("a", 0),))),), ((0,),))
        self.decided(("written", pair, "aa", 4), "shown")
        self.assertEqual(self.decided(("written", pair, "aa", 3), "broken")[0], "table")
        self.assertEqual(self.decided(("written", pair, "aa", None), "broken")[0], "table")
        self.decided(("written", pair, "b", 0), "shown")
        self.decided(("written", pair, "", 1), "shown")
        loop = (("",), (((0, ((0,),)), (0, (("a", 0),))),), ((0,),))
        u, v, w = self.decided(("written", loop, "a", None), "shown")
        self.assertTrue(v)
        self.assertEqual(self.decided(("written", loop, "a", 1), "broken")[0], "endless")
        # The buffers change places each time, and only one of them comes into the text.
        swap = (("b", "a"), (((0, ((1,), (0,))),),), ((0,),))
        u, v, w = self.decided(("written", swap, "a", None), "shown")
        self.assertEqual(len(v) % 2, 0)
        drop = (("b", "a"), (((0, ((1,), (0, "b"))),),), ((0,),))
        self.decided(("written", drop, "a", 1), "shown")
        grow = (("", "a"), (((0, ((0, "z"), (1,))),),), ((1,),))
        self.decided(("written", grow, "a", None), "shown")

    def test_surplus_and_endless(self):
        lone = (("",), (((0, ((0, "a"),)),),), ((0,),))
        word, _ = self.decided(("surplus", ONE, TWO, ONES, 0), "shown")
        self.assertEqual(word, ())
        self.assertEqual(self.decided(("surplus", ONE, TWO, ONES, -1), "broken")[0], "more")
        self.assertEqual(self.decided(("surplus", ONE, TWO, ONES, None), "broken")[0], "more")
        self.assertEqual(self.decided(("surplus", ONE, TWO, ONES, 1), "broken")[0], "less")
        for n in (None, 0, 10 ** 9):
            self.assertEqual(self.decided(("surplus", ONE, lone, ONES, n), "broken")[0], "endless")
        self.assertEqual(self.decided(("surplus", SILENT, lone, ONES, None), "shown"), (((0, 0),), ()))
        self.assertEqual(self.decided(("surplus", SILENT, lone, ONES, 0), "broken"), ("less", (((0, 0),), ())))
        self.decided(("endless", ONE, lone, ONES), "shown")
        self.decided(("endless", lone, ONE, ONES), "broken")
        self.assertEqual(self.decided(("endless", SILENT, ONE, ONES), "broken"), (((0, 0),), ()))

    def test_exchange(self):
        pair = (("",), (((0, ((0, "a"),)), (0, (("a", 0),))),), ((0,),))
        self.decided(("exchange", pair, (0, 1), (1, 1)), "shown")
        self.decided(("exchange", pair, (0,), ()), "broken")
        self.decided(("exchange", TWO_KINDS, (0, 1), (1, 0, 0, 0)), "shown")
        sides = (("",), (((0, ((0, "a"),)), (0, ((0, "b"),))),), ((0,),))
        self.decided(("exchange", sides, (0, 1), (1, 0)), "broken")
        # The words make no difference at once: some mark must be read twice.
        late = (("", ""), (((0, ((0,), (1, "a"))), (0, ((0,), (1, "b"))), (0, ((1,), ()))),), ((0,),))
        self.decided(("exchange", late, (0,), (1,)), "broken")
        self.decided(("exchange", late, (0, 2, 2), (1, 2, 2)), "shown")

    def is_true(self, claim):
        name, first = claim[:2]
        return {
            "alike": lambda: alike(*claim[1:]),
            "within": lambda: within(*claim[1:]),
            "first": lambda: first_difference(*claim[1:3]) == claim[3],
            "tests": lambda: fewest_tests(*claim[1:3]) == claim[3],
            "fine": lambda: len(fine_tests(*claim[1:3])) == claim[3],
            "sure": lambda: sure_text(*claim[1:3]) == claim[3],
            "meets": lambda: first_accepted(*claim[1:]) is not None,
            "written": lambda: how_many_for(*claim[1:3]) == claim[3],
            "surplus": lambda: (greatest_surplus(*claim[1:4]) + (None,))[:2] in (("most", claim[4]), ("none", claim[4])),
            "endless": lambda: greatest_surplus(*claim[1:4])[0] == "endless",
            "exchange": lambda: exchangeable(*claim[1:]),
        }[name]()

    def test_many(self):
        maker = Maker(92)
        seen = {}
        for _ in range(40):
            for name in NAMES:
                claim = claim_of(maker, name)
                found = decide(claim)
                self.assertEqual(found[1], claim)
                self.assertEqual(found[0], "shown" if self.is_true(claim) else "broken", claim)
                seen[name, found[0]] = seen.get((name, found[0]), 0) + 1
                # Many tests take long to multiply out.
                if name in ("meets", "written", "surplus", "endless") or len(found[2]) < 12:
                    self.assertIsNone(judge(found), found)
                tests = found[2][1] if found[2][:1] in (("fewer",), ("more",)) else found[2]
                with_tests = name in ("alike", "within", "exchange", "first") and found[0] == "shown"
                if with_tests or name in ("tests", "fine", "sure"):
                    self.assertTrue(all(len(word) < len(tests) for word in tests))
        self.assertEqual(len(seen), 22, seen)

    def test_against_all_short_words(self):
        maker = Maker(93)
        for _ in range(60):
            first, second = maker.pair()
            words = words_up_to(len(first[1][0]), 4)
            apart = [word for word in words if differ(first, second, word)]
            outside = [word for word in apart if text_for(first, word) is not None]
            if apart:
                self.assertEqual(decide(("alike", first, second))[0], "broken")
                self.assertEqual(decide(("first", first, second, apart[0]))[0], "shown")
            if outside:
                self.assertEqual(decide(("within", first, second))[0], "broken")
            for word in apart[1:4]:
                self.assertEqual(decide(("first", first, second, word))[::2], ("broken", ("earlier", apart[0])))

    def test_writers_at_their_bounds(self):
        maker = Maker(94)
        for _ in range(3):
            first = maker.writer(4, 3, 2, 24, "abz", 0)
            for second in (exchanged(first), maker.writer(4, 3, 2, 24, "abz", 0)):
                word = tuple(maker.random.randrange(3) for _ in range(60))
                for claim in (
                    ("alike", first, second), ("within", first, second), ("first", first, second, word),
                    ("tests", first, second, 20), ("fine", first, word, 20), ("sure", first, word, "a"),
                    ("meets", first, (("a", "b"), ((1, 0, 2), (0, 1, 2), (2, 0, 1)), ())), ("written", first, "abab", 0),
                    ("surplus", first, second, ONES, None), ("endless", first, second, ONES),
                    ("exchange", first, (0, 1, 2, 0), (0, 1, 0, 2)),
                ):
                    found = decide(claim)
                    self.assertEqual(found[1], claim)
                    self.assertLessEqual(count_parts(found), 300000)


if __name__ == "__main__":
    unittest.main()
