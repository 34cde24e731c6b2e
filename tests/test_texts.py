import copy
import itertools
import unittest

from cases import form_for, word_of
from fewtests.errors import InvalidForm, InvalidWriter, ParseError
from fewtests.forms import require_form
from fewtests.texts import format_form, format_words, format_writer, parse_form, parse_words, parse_writer
from fewtests.writers import require_writer
from reference import Maker, ONE, TWO

SOME = (
    ("ab", ""),
    (
        ((1, ((0, "x", 1), ("y",))), None, (0, ((1,), (0, "ba")))),
        (None, (0, (("z", 0), (1,))), None),
        (None, None, None),
    ),
    (("a", 0, "bc"), None, ()),
)
SOME_TEXT = """kinds 3
begin ab -
state
kind 0 to 1
fill 0 x 1
fill y
kind 2 to 0
fill 1
fill 0 ba
end a 0 bc
state
kind 1 to 0
fill z 0
fill 1
state
end
"""
FORM = (("ab", "c"), ((0, 1, 0), (2, 2, 1), (0, 0, 0)), (0, 2))
FORM_TEXT = "groups ab c\nstate 0 1 0\nstate 2 2 1\nstate 0 0 0\ngood 0 2\n"


def number_of(part):
    return int(part) if part in [str(n) for n in range(12)] else None


def loose_writer(lines):
    """The writer of these lines, whatever stands in them, or None where they are none at all."""
    kinds, begins, rules, ends = 0, (), [], []
    target = None
    for line in lines:
        head, *parts = line.split(" ")
        values = [part if number_of(part) is None else number_of(part) for part in parts]
        if head == "kinds":
            kinds = values[0] if values and isinstance(values[0], int) else 0
        elif head == "begin":
            begins = tuple("" if part == "-" else part for part in parts)
        elif head == "state":
            rules.append([None] * kinds)
            ends.append(None)
        elif head == "kind" and len(values) == 3 and rules and number_of(parts[0]) is not None and values[0] < kinds:
            rules[-1][values[0]] = (values[2], [])
            target = values[0]
        elif head == "fill" and rules and target is not None and rules[-1][target]:
            rules[-1][target][1].append(tuple(values))
        elif head == "end" and ends:
            ends[-1] = tuple(values)
        else:
            return None
    rows = tuple(tuple(None if e is None else (e[0], tuple(e[1])) for e in row) for row in rules)
    return (begins, rows, tuple(ends))


def is_writer_text(lines):
    value = loose_writer(lines)
    try:
        return value is not None and format_writer(require_writer(value)) == "".join(line + "\n" for line in lines)
    except InvalidWriter:
        return False


def can_go_on_to_a_writer(lines):
    if len(lines) < 3:
        return is_writer_text(lines + ["kinds 1", "begin -", "state"][len(lines):])
    ahead = itertools.product(range(4), range(13))
    return any(is_writer_text(lines + ["fill"] * fills + ["state"] * states) for fills, states in ahead)


def is_form_text(lines):
    groups = tuple(lines[0].split(" ")[1:]) if lines else ()
    rows = tuple(tuple(number_of(part) for part in line.split(" ")[1:]) for line in lines[1:-1])
    good = tuple(number_of(part) for part in lines[-1].split(" ")[1:]) if lines else ()
    try:
        value = require_form((groups, rows, good))
    except InvalidForm:
        return False
    return format_form(value) == "".join(line + "\n" for line in lines)


def can_go_on_to_a_form(lines):
    many = len(lines[0].split(" ")) if lines else 1
    row = "state" + " 0" * many
    starts = [[]] if lines else [["groups"]]
    for start in starts:
        if is_form_text(lines):
            return True
        if any(is_form_text(start + lines + [row] * more + ["good"]) for more in range(5)):
            return True
    return False


def is_words_text(lines):
    return all(
        line.split(" ")[0] == "word" and all(part in ("0", "1", "2", "3") for part in line.split(" ")[1:]) for line in lines
    )


def fault_in(text, is_text, can_go_on):
    """The line that the interface tells, or None."""
    *lines, rest = text.split("\n")
    for index in range(len(lines)):
        if not can_go_on(lines[:index + 1]):
            return index
    return None if rest == "" and is_text(lines) else len(lines)


SORTS = {
    parse_writer: (is_writer_text, can_go_on_to_a_writer),
    parse_form: (is_form_text, can_go_on_to_a_form),
    parse_words: (is_words_text, is_words_text),
}


class Checking(unittest.TestCase):
    def wrong(self, parse, text, line):
        with self.assertRaises(ParseError, msg=text) as caught:
            parse(text)
        self.assertEqual(caught.exception.line, line, text)

    def check(self, parse, text):
        """What the interface tells of the text; returns the line."""
        line = fault_in(text, *SORTS[parse])
        if line is None:
            parse(text)
        else:
            self.wrong(parse, text, line)
        return line

    def changed(self, parse, text):
        """Each line of the text left out, doubled, exchanged, and with parts left out, put in and the like."""
        lines = text.split("\n")[:-1]
        found = [text[:-1], text + "x", text + "\n", text + " ", text.replace("\n", "\r\n"), "\n" + text, "", "\n", " "]
        for at, line in enumerate(lines):
            parts = line.split(" ")
            others = [None, line + "\n" + line, "", " " + line, line + " ", line.replace(" ", "  ", 1), line.upper(), "x"]
            others += [line + " " + part for part in ("0", "1", "2", "3", "4", "11", "12", "00", "a", "z", "-", "0a", "A")]
            for k in range(len(parts)):
                others.append(" ".join(parts[:k] + parts[k + 1:]))
                for part in ("0", "1", "2", "3", "4", "5", "11", "12", "01", "-1", "", "a", "-", "\u0661", "1.0", "+1"):
                    others.append(" ".join(parts[:k] + [part] + parts[k + 1:]))
            for other in others:
                found.append("".join(one + "\n" for one in lines[:at] + [other] + lines[at + 1:] if one is not None))
            for later in range(at + 1, len(lines)):
                order = lines[:at] + [lines[later]] + lines[at + 1:later] + [line] + lines[later + 1:]
                found.append("".join(one + "\n" for one in order))
            found.append("".join(one + "\n" for one in lines[:at]))
            found.append("".join(one + "\n" for one in lines[:at]) + line)
        return found


class WriterTest(Checking):
    def test_example(self):
        self.assertEqual(format_writer(TWO), "kinds 1\nbegin -\nstate\nkind 0 to 0\nfill 0 ba\nend a 0\n")
        self.assertEqual(format_words(((), (0, 1))), "word\nword 0 1\n")

    def test_to_the_sign(self):
        kept = copy.deepcopy(SOME)
        self.assertEqual(format_writer(writer=SOME), SOME_TEXT)
        self.assertEqual(parse_writer(text=SOME_TEXT), SOME)
        self.assertEqual(SOME, kept)

    def test_written_and_read_back(self):
        maker = Maker(131)
        for _ in range(200):
            writer = maker.writer(maker.random.randint(1, 12), maker.random.randint(1, 4), maker.random.randint(1, 3), 6)
            self.assertEqual(parse_writer(format_writer(writer)), writer)

    def test_one_thing_changed(self):
        seen = {}
        for text in (SOME_TEXT, format_writer(ONE), "kinds 2\nbegin -\nstate\n"):
            for changed in self.changed(parse_writer, text):
                line = self.check(parse_writer, changed)
                seen[line is None] = seen.get(line is None, 0) + 1
        self.assertGreater(seen[True], 20)
        self.assertGreater(seen[False], 1000)

    def test_lines_that_end_too_early(self):
        self.wrong(parse_writer, "", 0)
        self.wrong(parse_writer, "kinds 1", 0)
        self.wrong(parse_writer, "kinds 1\n", 1)
        self.wrong(parse_writer, "kinds 1\nbegin -\n", 2)
        self.assertEqual(parse_writer("kinds 1\nbegin -\nstate\n"), (("",), ((None,),), (None,)))
        self.wrong(parse_writer, "kinds 1\nbegin -\nstate", 2)
        self.wrong(parse_writer, "kinds 1\nbegin -\nstate\nend", 3)
        self.wrong(parse_writer, "kinds 1\nbegin -\nstate\nkind 0 to 0\n", 4)
        self.wrong(parse_writer, "kinds 1\nbegin - -\nstate\nkind 0 to 0\nfill\n", 5)

    def test_numbers_of_kinds_and_begins(self):
        for many in ("0", "5", "01", "", "-1", "1 ", "a", "1 1"):
            self.wrong(parse_writer, f"kinds {many}\nbegin -\nstate\n", 0)
        for many in range(1, 5):
            self.assertEqual(parse_writer(f"kinds {many}\nbegin -\nstate\n")[1], ((None,) * many,))
        for many in range(1, 4):
            self.assertEqual(parse_writer("kinds 1\nbegin" + " -" * many + "\nstate\n")[0], ("",) * many)
        for begins in ("", " - - - -", " ", " a  b", " A", " -a", " 0", " a1"):
            self.wrong(parse_writer, f"kinds 1\nbegin{begins}\nstate\n", 1)

    def test_letters_at_the_limit(self):
        long = "a" * 240
        head = "kinds 1\nbegin - -\nstate\nkind 0 to 0\n"
        self.assertEqual(parse_writer(f"kinds 1\nbegin {long} {long}\nstate\n")[0], (long, long))
        self.wrong(parse_writer, f"kinds 1\nbegin {long}a -\nstate\n", 1)
        self.assertEqual(parse_writer(f"{head}fill {long}\nfill\nend {long}\n")[2], ((long,),))
        self.wrong(parse_writer, f"{head}fill {long}a\nfill\n", 4)
        self.wrong(parse_writer, f"{head}fill {long}\nfill a\n", 5)
        self.wrong(parse_writer, f"{head}fill a\nfill {long}\n", 5)
        self.wrong(parse_writer, f"{head}fill\nfill\nend {long}a\n", 6)
        self.wrong(parse_writer, f"{head}fill\nfill\nend a 0 {long}\n", 6)

    def test_states_at_the_limit(self):
        head = "kinds 1\nbegin -\n"
        self.assertEqual(len(parse_writer(head + "state\n" * 12)[1]), 12)
        self.wrong(parse_writer, head + "state\n" * 13, 14)
        self.wrong(parse_writer, head + "state\n" * 12 + "end\nstate\n", 15)

    def test_next_states(self):
        head = "kinds 1\nbegin -\nstate\nkind 0 to {}\nfill 0\n"
        for target in range(12):
            text = head.format(target)
            self.assertEqual(parse_writer(text + "state\n" * target)[1][0][0][0], target)
            if target:
                # The states may still come: the text shows only by its end that they do not.
                self.wrong(parse_writer, text + "state\n" * (target - 1), 5 + target - 1)
        for target in ("12", "-1", "011", "x", "", "0 0"):
            self.wrong(parse_writer, head.format(target), 3)

    def test_kinds_ascend(self):
        head = "kinds 3\nbegin -\nstate\nkind 1 to 0\nfill 0\n"
        self.assertEqual(parse_writer(head + "kind 2 to 0\nfill\n")[1][0], (None, (0, ((0,),)), (0, ((),))))
        for kind in ("0", "1", "3", "02", "a"):
            self.wrong(parse_writer, head + f"kind {kind} to 0\nfill\n", 5)
        self.assertEqual(parse_writer(head + "state\nkind 0 to 0\nfill\n")[1][1][0], (0, ((),)))
        self.wrong(parse_writer, head + "end 0\nkind 2 to 0\nfill\n", 6)
        self.wrong(parse_writer, head + "end 0\nend 0\n", 6)

    def test_buffers(self):
        head = "kinds 1\nbegin - -\nstate\nkind 0 to 0\n"
        self.wrong(parse_writer, head + "fill 0\nfill 0\n", 5)
        self.wrong(parse_writer, head + "fill 0 0\nfill\n", 4)
        self.wrong(parse_writer, head + "fill 2\nfill\n", 4)
        self.wrong(parse_writer, head + "fill a b\nfill\n", 4)
        self.assertEqual(parse_writer(head + "fill 1 a 0 b\nfill\nend\n")[2], ((),))
        self.assertEqual(parse_writer(head + "fill 1\nfill 0\nend b 1 a 0\n")[2], (("b", 1, "a", 0),))
        self.wrong(parse_writer, head + "fill 1\nfill 0\nend b 1 1\n", 6)
        self.wrong(parse_writer, head + "fill 1\nfill 0\nend 11\n", 6)

    def test_drawn(self):
        maker = Maker(132)
        pick = maker.random
        for _ in range(150):
            text = format_writer(maker.writer(pick.randint(1, 4), pick.randint(1, 3), pick.randint(1, 3), 3))
            lines = text.split("\n")[:-1]
            for _ in range(4):
                at = pick.randrange(len(lines))
                changed = pick.choice((
                    lines[:at] + lines[at + 1:], lines[:at] + [lines[at]] + lines[at:],
                    lines[:at] + [pick.choice(lines)] + lines[at:], lines[:at] + [pick.choice(lines)] + lines[at + 1:],
                    lines[:at] + [" ".join(lines[at].split(" ")[::-1])] + lines[at + 1:], lines[:at],
                ))
                self.check(parse_writer, "".join(line + "\n" for line in changed))

    def test_long_texts(self):
        long = "state\n" * 4000
        self.wrong(parse_writer, "kinds 1\nbegin -\n" + long, 14)
        self.wrong(parse_writer, "kinds " + "9" * 19000 + "\n", 0)
        self.wrong(parse_writer, "kinds 1\nbegin -\nstate\nend " + "a " * 9000 + "\n", 3)


class WordsTest(Checking):
    def test_to_the_sign(self):
        self.assertEqual(format_words(()), "")
        self.assertEqual(parse_words(""), ())
        self.assertEqual(format_words(words=((3, 0), (), (1, 1, 1), ())), "word 3 0\nword\nword 1 1 1\nword\n")
        self.assertEqual(parse_words(text="word 3 0\nword\nword 1 1 1\nword\n"), ((3, 0), (), (1, 1, 1), ()))

    def test_written_and_read_back(self):
        maker = Maker(133)
        for _ in range(60):
            words = tuple(word_of(maker, 4, 6) for _ in range(maker.random.randint(0, 200)))
            self.assertEqual(parse_words(format_words(words)), words)
        self.assertEqual(parse_words(format_words(((0,) * 1000,))), ((0,) * 1000,))
        self.assertEqual(parse_words("word\n" * 4000), ((),) * 4000)

    def test_wrong_lines(self):
        for text, line in (
            ("word", 0), ("word\nword", 1), ("word \n", 0), ("word 4\n", 0), ("word 0\nword 00\n", 1), (" word\n", 0),
            ("\n", 0), ("word\n\n", 1), ("word\n ", 1), ("word 0  1\n", 0), ("word 0\t1\n", 0), ("words\n", 0),
            ("Word\n", 0), ("word 0\nword -1\nword\n", 1), ("word 10\n", 0), ("word a\n", 0), ("word\u00a00\n", 0),
            ("word 0\nx", 1), ("x", 0), ("word \u0661\n", 0), ("word\r\n", 0), ("word " + "1" * 5000 + "\n", 0),
        ):
            self.wrong(parse_words, text, line)

    def test_one_thing_changed(self):
        for changed in self.changed(parse_words, "word\nword 0 1\nword 3 3 3\n"):
            self.check(parse_words, changed)


class FormTest(Checking):
    def test_to_the_sign(self):
        self.assertEqual(format_form(form=FORM), FORM_TEXT)
        self.assertEqual(parse_form(text=FORM_TEXT), FORM)
        bare = ((), ((0,),), ())
        self.assertEqual(format_form(bare), "groups\nstate 0\ngood\n")
        self.assertEqual(parse_form("groups\nstate 0\ngood\n"), bare)

    def test_written_and_read_back(self):
        maker = Maker(134)
        for _ in range(200):
            form = form_for(maker, ONE)
            self.assertEqual(parse_form(format_form(form)), form)

    def test_one_thing_changed(self):
        seen = {}
        for text in (FORM_TEXT, "groups\nstate 0\ngood\n", "groups a\nstate 1 0\nstate 0 3\nstate 2 2\nstate 0 0\ngood 3\n"):
            for changed in self.changed(parse_form, text):
                line = self.check(parse_form, changed)
                seen[line is None] = seen.get(line is None, 0) + 1
        self.assertGreater(seen[True], 20)
        self.assertGreater(seen[False], 500)

    def test_ends(self):
        self.wrong(parse_form, "", 0)
        self.wrong(parse_form, "groups\n", 1)
        self.wrong(parse_form, "groups\nstate 0\n", 2)
        self.wrong(parse_form, "groups\nstate 0\ngood", 2)
        self.wrong(parse_form, "groups\ngood\n", 1)
        self.wrong(parse_form, FORM_TEXT + "good 0 2\n", 5)
        self.wrong(parse_form, FORM_TEXT + "state 0 0 0\n", 5)
        self.wrong(parse_form, FORM_TEXT + "x", 5)

    def test_groups(self):
        for groups in (" ba", " aa", " ab bc", " a b c d", " A", "  a", " ", " 0", " a-z"):
            self.wrong(parse_form, f"groups{groups}\nstate 0 0\ngood\n", 0)
        everything = "abcdefghijklmnopqrstuvwxyz"
        self.assertEqual(parse_form(f"groups {everything}\nstate 0 0\ngood\n")[0], (everything,))
        self.wrong(parse_form, f"groups a b c\nstate 0 0 0\ngood\n", 1)
        self.assertEqual(parse_form("groups a b c\nstate 0 0 0 0\ngood\n")[0], ("a", "b", "c"))

    def test_states(self):
        self.assertEqual(len(parse_form("groups\n" + "state 0\n" * 4 + "good\n")[1]), 4)
        self.wrong(parse_form, "groups\n" + "state 0\n" * 5 + "good\n", 5)
        # States that are told may come until the good ones are.
        self.wrong(parse_form, "groups\nstate 3\nstate 0\nstate 0\ngood\n", 4)
        self.assertEqual(parse_form("groups\nstate 3\nstate 0\nstate 0\nstate 0\ngood\n")[1][0], (3,))
        self.wrong(parse_form, "groups\nstate 3\nstate 0\nstate 0\n", 4)
        self.wrong(parse_form, "groups\nstate 4\n", 1)
        self.wrong(parse_form, "groups\nstate 0 0\n", 1)
        self.wrong(parse_form, "groups\nstate\n", 1)

    def test_good(self):
        head = "groups\nstate 0\nstate 1\n"
        self.assertEqual(parse_form(head + "good 0 1\n")[2], (0, 1))
        for good in ("1 0", "0 0", "2", "00", "a", "0 1 2", "", "-1"):
            self.wrong(parse_form, head + f"good {good}\n", 3)


if __name__ == "__main__":
    unittest.main()
