import copy
import inspect
import unittest

from cases import STRANGE
from fewtests.errors import (
    AlreadySent,
    Differs,
    InvalidWriter,
    KindsDiffer,
    LimitExceeded,
    NoOutcome,
    NotWritten,
    Refused,
    TooFar,
    UnknownKind,
)
from fewtests.presses import Press
from fewtests.runs import behind, text_for
from fewtests.sure import sure_text
from reference import FORK, Maker, ONE, THREE, TWO, doubled, exchanged, first_of, words_up_to
from refusing import Refusing

HEAD = (("",), (((0, (("a", 0),)), (1, (("x", 0),))), (None, None)), (None, (0,)))
# Kind 0 puts an a behind; kind 1 leads to where nothing can come, and is refused there.
DEAD = (("",), (((0, ((0, "a"),)), (1, ((0,),))), ((1, ((0,),)), None)), ((0,), None))
LONE = (("",), (((0, ((0, "a"),)),),), ((0,),))
SILENT = (("",), (((0, ((0, "a"),)),),), (None,))
BIG = (("",), ((None,),) * 5, ((0,),) * 5)
DEPTHS = {1: 12, 2: 7, 3: 5}


def common(texts):
    least, greatest = min(texts), max(texts)
    many = 0
    while many < len(least) and least[many] == greatest[many]:
        many += 1
    return least[:many]


def texts_behind(writer, word, depth):
    found = [text_for(writer, word + more) for more in words_up_to(len(writer[1][0]), depth)]
    return [text for text in found if text is not None]


def state_of(press):
    return press.sent, press.history(), press.writer(), press.possible(), press.rest(), len(press)


class Checking(Refusing):
    def told_by(self, press):
        return state_of(press)

    def check(self, press):
        """What the press tells is right for its word."""
        writer, word = press.writer(), press.history()
        self.assertEqual(press.sent, sure_text(writer, word))
        self.assertEqual(len(press), len(word))
        text = text_for(writer, word)
        self.assertEqual(press.rest(), None if text is None else text[len(press.sent):])
        kinds = [kind for kind in range(len(writer[1][0])) if behind(writer, word + (kind,)) is not None]
        self.assertEqual(press.possible(), tuple(kind for kind in kinds if self.can_come(writer, word + (kind,))))

    def can_come(self, writer, word):
        states = [behind(writer, word)[0]]
        for state in states:
            for entry in writer[1][state]:
                if entry is not None and entry[0] not in states:
                    states.append(entry[0])
        return any(writer[2][state] is not None for state in states)


class PressTest(Checking):
    def test_example(self):
        press = Press(HEAD)
        told = (press.sent, press.read(0), press.rest(), press.read(1))
        self.assertEqual((told, press.sent, press.possible()), (("x", "a", None, ""), "xa", ()))

    def test_writers_that_are_none(self):
        for value in STRANGE:
            with self.assertRaises(InvalidWriter):
                Press(value)
        for value, part in (
            (BIG, ("small",)),
            ((("a" * 25,), ((None,),), ((0,),)), ("small",)),
            ((("",), ((None,) * 4,), ((0,),)), ("small",)),
            ((("",) * 3, ((None,),), ((0,),)), ("small",)),
            ((("",), ((None,),) * 5, (None,) * 5), ("small",)),
            ((("",), ((None,),), ((1,),)), ("end", 0)),
            ((("",), ((0,),), ((0,),)), ("state", 0)),
            (((1,), ((None,),), ((0,),)), ("begins",)),
            ([], None),
        ):
            with self.assertRaises(InvalidWriter) as caught:
                Press(writer=value)
            self.assertEqual(caught.exception.part, part)

    def test_no_outcome(self):
        nowhere = (("",), (((0, ((0,),)),), ((0, ((0,),)),)), (None, (0,)))
        for writer in (SILENT, nowhere, (("",), ((None,),), (None,))):
            with self.assertRaises(NoOutcome):
                Press(writer)
        self.assertEqual(Press((("ab",), ((None,),), ((0, "c"),))).sent, "abc")

    def test_it_begins_with_the_empty_word(self):
        press = Press(writer=ONE)
        self.assertEqual(state_of(press), ("a", (), ONE, (0,), "", 0))
        self.assertEqual(state_of(Press(FORK)), ("", (), FORK, (0, 1, 2), None, 0))

    def test_methods_stand_in_the_class(self):
        for name in (
            "__init__", "__len__", "__iadd__", "sent", "read", "history", "writer", "possible", "rest", "finish", "back",
            "carry_on", "change",
        ):
            self.assertIn(name, vars(Press))
        self.assertIsInstance(vars(Press)["sent"], property)
        for name, argument in (("read", "kind"), ("back", "many"), ("carry_on", "writer"), ("change", "writer")):
            self.assertEqual(list(inspect.signature(getattr(Press, name)).parameters), ["self", argument])

    def test_two_presses_and_the_writer(self):
        kept = copy.deepcopy(HEAD)
        first, second = Press(HEAD), Press(HEAD)
        first.read(0)
        self.assertEqual((first.sent, second.sent), ("xa", "x"))
        self.assertEqual(HEAD, kept)


class ReadTest(Checking):
    def test_reading(self):
        press = Press(ONE)
        self.assertEqual([press.read(0), press.read(kind=0), press.sent], ["ba", "ba", "ababa"])
        press = Press(FORK)
        self.assertEqual((press.read(1), press.sent, press.rest(), press.possible()), ("ab", "ab", "", ()))

    def test_no_kinds(self):
        press = Press(HEAD)
        for value in (2, -1, 10 ** 70, True, False, None, "0", (0,), [0], {}, (), "a"):
            self.refused(press, lambda: press.read(value), UnknownKind, value=value)

    def test_refused(self):
        press = Press(DEAD)
        self.assertEqual(press.possible(), (0,))
        self.refused(press, lambda: press.read(1), Refused, index=0)
        press.read(0)
        press.read(0)
        self.refused(press, lambda: press.read(1), Refused, index=2)
        self.refused(press, lambda: press.read(2), UnknownKind, value=2)
        end = Press(HEAD)
        end += (0, 1)
        self.refused(end, lambda: end.read(0), Refused, index=2)

    def test_sixty_kinds_and_one_more(self):
        press = Press(DEAD)
        for _ in range(60):
            press.read(0)
        self.assertEqual((len(press), press.sent, press.possible(), press.rest()), (60, "a" * 60, (0,), ""))
        self.refused(press, lambda: press.read(0), LimitExceeded, limit=60)
        self.refused(press, lambda: press.read(1), Refused, index=60)
        self.refused(press, lambda: press.read(3), UnknownKind, value=3)
        press.back(0)
        self.assertEqual(press.finish(), "")
        self.assertEqual(press.read(0), "a")

    def test_drawn_words_against_all_that_can_still_come(self):
        maker = Maker(111)
        reads = 0
        for _ in range(120):
            writer = maker.writer()
            kinds = len(writer[1][0])
            try:
                press = Press(writer)
            except NoOutcome:
                self.assertEqual(texts_behind(writer, (), DEPTHS[kinds]), [])
                continue
            sent = press.sent
            for _ in range(5):
                self.check(press)
                coming = texts_behind(writer, press.history(), DEPTHS[kinds])
                self.assertTrue(all(text.startswith(press.sent) for text in coming))
                if kinds < 3 and len(writer[1]) < 3:
                    self.assertEqual(press.sent, common(coming))
                if not press.possible():
                    break
                new = press.read(maker.random.choice(press.possible()))
                sent += new
                reads += 1
                self.assertEqual(press.sent, sent)
        self.assertGreater(reads, 200)


class AddTest(Checking):
    def add(self, press, word):
        press += word
        return press

    def test_all_or_nothing(self):
        press = Press(HEAD)
        same = press
        press += (0, 0)
        self.assertIs(press, same)
        self.assertEqual((press.history(), press.sent), ((0, 0), "xaa"))
        press += ()
        self.assertEqual(press.history(), (0, 0))
        press += (0, 1)
        self.assertEqual((press.history(), press.sent), ((0, 0, 0, 1), "xaaa"))

    def test_kinds_that_are_none(self):
        press = Press(DEAD)
        for word, value in (((0, 2), 2), ((0, 1, 0, -1), -1), ((True,), True), ((0, None, 7), None), (((0,),), (0,)),
                            ((0,) * 70 + ("a",), "a"), ((1, [0]), [0])):
            self.refused(press, lambda: self.add(press, word), UnknownKind, value=value)
        for value in ([0], "0", None, 0, {0: 0}, True):
            self.refused(press, lambda: self.add(press, value), UnknownKind, value=value)

    def test_nothing_could_come(self):
        press = Press(DEAD)
        self.refused(press, lambda: self.add(press, (1,)), Refused, index=0)
        self.refused(press, lambda: self.add(press, (0, 0, 1, 0)), Refused, index=2)
        press += (0, 0, 0)
        self.refused(press, lambda: self.add(press, (0, 1)), Refused, index=4)
        self.refused(press, lambda: self.add(press, (0,) * 100 + (1,)), Refused, index=103)
        self.refused(press, lambda: self.add(press, (0,) * 50000 + (1, 0)), Refused, index=50003)
        self.refused(press, lambda: self.add(press, (1,) + (0,) * 100 + (2,)), UnknownKind, value=2)

    def test_sixty_kinds_and_one_more(self):
        press = Press(DEAD)
        self.refused(press, lambda: self.add(press, (0,) * 61), LimitExceeded, limit=60)
        press += (0,) * 60
        self.assertEqual((len(press), press.sent), (60, "a" * 60))
        self.refused(press, lambda: self.add(press, (0,)), LimitExceeded, limit=60)
        press += ()
        self.assertEqual(len(press), 60)

    def test_as_many_reads(self):
        maker = Maker(112)
        for _ in range(60):
            writer = maker.writer(refused=0.05)
            word = tuple(maker.random.randrange(len(writer[1][0])) for _ in range(4))
            try:
                one, two = Press(writer), Press(writer)
            except NoOutcome:
                continue
            try:
                for kind in word:
                    one.read(kind)
            except Refused as caught:
                self.refused(two, lambda: self.add(two, word), Refused, index=caught.index)
            else:
                two += word
                self.assertEqual(state_of(one), state_of(two))


class FinishTest(Checking):
    def test_finish(self):
        press = Press(HEAD)
        press += (0, 0)
        self.refused(press, press.finish, NotWritten)
        press.read(1)
        self.assertEqual((press.rest(), press.finish()), ("", ""))
        self.assertEqual(state_of(press), ("x", (), HEAD, (0, 1), None, 0))
        # What is still to be sent comes out in the end.
        late = (("",), (((0, ((0, "a"),)),),), (("b", 0, "c"),))
        press = Press(late)
        self.assertEqual((press.sent, press.rest()), ("b", "c"))
        press.read(0)
        self.assertEqual((press.sent, press.rest(), press.finish(), press.sent), ("ba", "c", "c", "b"))
        self.assertEqual(press.history(), ())

    def test_all_that_was_sent_and_the_rest_are_the_text(self):
        maker = Maker(113)
        for _ in range(60):
            writer = maker.writer()
            try:
                press = Press(writer)
            except NoOutcome:
                continue
            for _ in range(4):
                word = press.history()
                text = text_for(writer, word)
                if text is None:
                    self.refused(press, press.finish, NotWritten)
                else:
                    sent = press.sent
                    self.assertEqual(sent + press.finish(), text)
                    self.assertEqual((press.history(), press.sent), ((), sure_text(writer, ())))
                    press += word
                if press.possible():
                    press.read(maker.random.choice(press.possible()))


class BackTest(Checking):
    def test_back(self):
        # The kinds before the last one only count how many letters come in the end.
        wait = (("",), (((0, (("a", 0),)), (1, ((0, "b"),))), (None, None)), (None, (0,)))
        press = Press(wait)
        press += (0, 0)
        self.assertEqual(press.sent, "aa")
        self.refused(press, lambda: press.back(1), AlreadySent, text="a")
        hold = (("", ""), (((0, ((0, "a"), (1,))), (0, ((0,), (1, "b")))), (None, None)), ((1, 0), None))
        press = Press(hold)
        press += (0, 0, 0)
        self.assertEqual(press.sent, "")
        self.assertIsNone(press.back(1))
        self.assertEqual((press.history(), press.sent), ((0, 0), ""))
        self.assertIsNone(press.back(many=2))
        self.assertEqual((press.history(), press.sent), ((), ""))

    def test_how_many(self):
        press = Press(HEAD)
        press += (0, 0)
        for value in (3, -1, True, False, None, "1", (1,), [1], 10 ** 60, {}):
            self.refused(press, lambda: press.back(value), TooFar, many=value)
        self.assertIsNone(press.back(0))
        self.refused(press, lambda: press.back(1), AlreadySent, text="xa")
        self.refused(press, lambda: press.back(2), AlreadySent, text="x")
        empty = Press(HEAD)
        self.assertIsNone(empty.back(0))
        self.refused(empty, lambda: empty.back(1), TooFar, many=1)

    def test_drawn(self):
        maker = Maker(114)
        seen = {True: 0, False: 0}
        for _ in range(150):
            writer = maker.writer(letters="a" if maker.random.random() < 0.5 else "ab")
            try:
                press = Press(writer)
            except NoOutcome:
                continue
            for _ in range(4):
                if press.possible():
                    press.read(maker.random.choice(press.possible()))
            many = maker.random.randint(0, len(press))
            word = press.history()[:len(press) - many]
            sure = sure_text(writer, word)
            seen[sure == press.sent] += 1
            if sure == press.sent:
                self.assertIsNone(press.back(many))
                self.assertEqual(press.history(), word)
                self.check(press)
            else:
                self.refused(press, lambda: press.back(many), AlreadySent, text=sure)
        self.assertGreater(min(seen.values()), 20)


class OtherWriterTest(Checking):
    def test_carry_on(self):
        press = Press(ONE)
        press += (0, 0)
        self.assertIsNone(press.carry_on(TWO))
        self.assertEqual((press.writer(), press.history(), press.sent), (TWO, (0, 0), "ababa"))
        self.assertIsNone(press.carry_on(writer=doubled(ONE)))
        self.assertEqual(press.read(0), "ba")

    def test_carry_on_where_they_differ(self):
        press = Press(ONE)
        self.refused(press, lambda: press.carry_on(THREE), Differs, word=(0, 0))
        press.read(0)
        self.refused(press, lambda: press.carry_on(THREE), Differs, word=(0,))
        press.read(0)
        self.refused(press, lambda: press.carry_on(THREE), Differs, word=())
        self.refused(press, lambda: press.carry_on(SILENT), Differs, word=())
        short = (("",), (((1, ((0, "ab"),)),), (None,)), ((0, "a"), (0, "a")))
        press.finish()
        self.refused(press, lambda: press.carry_on(short), Differs, word=(0, 0))
        press.read(0)
        self.refused(press, lambda: press.carry_on(short), Differs, word=(0,))
        press.read(0)
        self.refused(press, lambda: press.carry_on(short), Differs, word=())

    def test_carry_on_where_they_differ_elsewhere(self):
        # Behind kind 0 they write the same, behind kind 1 they do not.
        one = (("",), (((1, ((0, "a"),)), (1, ((0, "b"),))), (None, None)), (None, (0,)))
        two = (("",), (((1, ((0, "a"),)), (1, ((0, "c"),))), (None, None)), (None, (0,)))
        press = Press(one)
        self.refused(press, lambda: press.carry_on(two), Differs, word=(1,))
        press.read(0)
        self.assertIsNone(press.carry_on(two))
        self.assertEqual((press.writer(), press.sent, press.rest()), (two, "a", ""))

    def test_writers_that_cannot_be_taken(self):
        press = Press(ONE)
        press.read(0)
        for value in STRANGE:
            self.refused(press, lambda: press.carry_on(value), InvalidWriter)
            self.refused(press, lambda: press.change(value), InvalidWriter)
        for act in (press.carry_on, press.change):
            self.refused(press, lambda: act(BIG), InvalidWriter, part=("small",))
            self.refused(press, lambda: act(((), (), ())), InvalidWriter, part=None)
            self.refused(press, lambda: act(((), ((None,),), (None,))), InvalidWriter, part=("begins",))
            self.refused(press, lambda: act(HEAD), KindsDiffer)
            self.refused(press, lambda: act((("",), ((None,) * 4,), (None,))), InvalidWriter, part=("small",))

    def test_change(self):
        press = Press(ONE)
        press.read(0)
        longer = (("",), (((0, ((0, "ab"),)),),), ((0, "ac"),))
        self.assertEqual(press.sent, "aba")
        self.assertEqual(press.change(longer), "")
        self.assertEqual((press.writer(), press.sent, press.rest()), (longer, "aba", "c"))
        more = (("",), (((0, ((0, "abax"),)),),), ((0, "c"),))
        self.assertEqual(press.change(writer=more), "x")
        self.assertEqual((press.sent, press.history()), ("abax", (0,)))
        self.refused(press, lambda: press.change(ONE), AlreadySent, text="aba")
        self.refused(press, lambda: press.change(LONE), AlreadySent, text="a")
        self.refused(press, lambda: press.change((("y",),) + LONE[1:]), AlreadySent, text="ya")
        press.read(0)
        self.assertEqual(press.sent, "abaxabax")

    def test_change_where_nothing_can_come(self):
        press = Press(ONE)
        self.refused(press, lambda: press.change(SILENT), Refused, index=0)
        press.read(0)
        short = (("",), ((None,),), ((0, "aba"),))
        self.refused(press, lambda: press.change(short), Refused, index=1)
        self.refused(press, lambda: press.change(SILENT), Refused, index=1)
        stuck = (("",), (((1, ((0,),)),), ((1, ((0,),)),)), ((0,), None))
        self.refused(press, lambda: press.change(stuck), Refused, index=1)

    def test_drawn(self):
        maker = Maker(115)
        seen = {}
        for _ in range(250):
            first, second = maker.pair()
            try:
                press = Press(first)
            except NoOutcome:
                continue
            for _ in range(maker.random.randint(0, 3)):
                if press.possible():
                    press.read(maker.random.choice(press.possible()))
            word, sent = press.history(), press.sent
            words = words_up_to(len(first[1][0]), 4)
            apart = first_of(words, lambda more: text_for(first, word + more) != text_for(second, word + more))
            other = copy.deepcopy(press)
            try:
                press.carry_on(second)
            except Differs as caught:
                told = "differs"
                self.assertNotEqual(text_for(first, word + caught.word), text_for(second, word + caught.word))
                if apart is not None:
                    self.assertEqual(caught.word, apart)
                self.assertEqual(press.writer(), first)
            else:
                told = "carried"
                self.assertIsNone(apart)
                self.assertEqual(press.writer(), second)
            self.assertEqual((press.history(), press.sent), (word, sent))
            self.check(press)
            seen[told] = seen.get(told, 0) + 1
            refused = behind(second, word) is None or sure_text(second, word) is None
            sure = None if refused else sure_text(second, word)
            if refused:
                told = "refused"
                self.refused(other, lambda: other.change(second), Refused, index=len(word))
            elif not sure.startswith(sent):
                told = "sent"
                self.refused(other, lambda: other.change(second), AlreadySent, text=sure)
            else:
                told = "changed"
                self.assertEqual(other.change(second), sure[len(sent):])
                self.assertEqual((other.writer(), other.sent), (second, sure))
                self.check(other)
            seen[told] = seen.get(told, 0) + 1
        self.assertEqual(len(seen), 5, seen)
        self.assertGreater(min(seen.values()), 8, seen)

    def test_writers_at_their_bounds(self):
        maker = Maker(116)
        for _ in range(3):
            writer = maker.writer(4, 3, 2, 24, "ab", 0)
            press = Press(writer)
            for _ in range(60):
                press.read(maker.random.choice(press.possible()))
            press.carry_on(exchanged(writer))
            self.assertEqual(press.change(writer), "")
            self.assertEqual(press.sent, sure_text(writer, press.history()))


if __name__ == "__main__":
    unittest.main()
