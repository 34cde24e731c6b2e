"""Claims and values for the tests, the same ones each time."""

from fewtests.forms import form_fits, require_form
from fewtests.meets import how_many_for
from fewtests.parting import first_difference
from fewtests.runs import behind
from fewtests.suites import fewest_tests
from fewtests.sure import fine_tests, sure_text
from fewtests.surplus import greatest_surplus

NAMES = (
    "alike", "within", "first", "tests", "fine", "sure", "meets", "written", "surplus", "endless", "exchange",
)

# Values of every kind, none of which is anything that is asked for.
STRANGE = (
    None, True, False, -1, 10 ** 70, "", "a", "ab", "\u00e9", "A", (), [], {}, ("a",), [()], {"a": 1}, ((),), ((), (), ()),
    (None, None, None), [0], (0, 0), ((0,), (1,)), ("shown", "alike", ()), ("alike",),
)


def word_of(maker, kinds, most):
    return tuple(maker.random.randrange(kinds) for _ in range(maker.random.randint(0, most)))


def word_not_refused(maker, writer, most):
    word = ()
    for _ in range(maker.random.randint(0, most)):
        longer = word + (maker.random.randrange(len(writer[1][0])),)
        if behind(writer, longer) is not None:
            word = longer
    return word


def form_for(maker, writer):
    pick = maker.random
    while True:
        states = pick.randint(1, 4)
        groups = pick.choice(((), ("a",), ("b",), ("ab",), ("a", "b")))
        rows = tuple(tuple(pick.randrange(states) for _ in range(len(groups) + 1)) for _ in range(states))
        form = (groups, rows, tuple(sorted(pick.sample(range(states), pick.randint(0, states)))))
        if form_fits(writer, require_form(form)):
            return form


def prices_for(maker):
    return tuple(maker.random.choice((0, 0, 1, -1, maker.random.randint(-9, 9))) for _ in range(26))


def surplus_number(maker, first, second, prices):
    found = greatest_surplus(first, second, prices)
    n = found[1] if found[0] == "most" else None
    return maker.random.choice((n, n, None, (n or 0) - 1, (n or 0) + 1))


def claim_of(maker, name):
    """A claim of this name, true or not."""
    pick = maker.random
    first, second = maker.pair()
    kinds = len(first[1][0])
    if name in ("alike", "within"):
        return name, first, second
    if name == "first":
        found = first_difference(first, second)
        others = [word_of(maker, kinds, 4)] + ([] if found is None else [found, found, found + (0,), found[1:]])
        return name, first, second, pick.choice(others)
    if name == "tests":
        return name, first, second, max(1, fewest_tests(first, second) + pick.choice((0, 0, 1, -1)))
    if name in ("fine", "sure"):
        word = word_not_refused(maker, first, 3)
        if name == "fine":
            return name, first, word, max(1, len(fine_tests(first, word)) + pick.choice((0, 0, 1, -1)))
        text = sure_text(first, word)
        return name, first, word, pick.choice((text, text, None, (text or "") + "a", (text or "b")[1:]))
    if name == "meets":
        return name, first, form_for(maker, first)
    if name == "written":
        text = pick.choice(("", "a", "ab", "aa", "ba", "aba"))
        many = how_many_for(first, text)
        return name, first, text, pick.choice((many, many, None, (many or 0) + 1))
    prices = prices_for(maker)
    if name == "surplus":
        return name, first, second, prices, surplus_number(maker, first, second, prices)
    if name == "endless":
        return name, first, second, prices
    s = word_of(maker, kinds, 2)
    return name, first, s, pick.choice((s[::-1], word_of(maker, kinds, 2)))


def mutated(pick, value):
    """The value with one thing changed somewhere."""
    if isinstance(value, tuple) and value and pick.random() < 0.85:
        at = pick.randrange(len(value))
        return value[:at] + (mutated(pick, value[at]),) + value[at + 1:]
    chance = pick.random()
    if isinstance(value, tuple):
        at = pick.randint(0, len(value))
        if chance < 0.1:
            return list(value)
        if chance < 0.35:
            return value[:at] + value[at + 1:]
        if chance < 0.5:
            return value[:at] + value[at - 1:]
        if chance < 0.6:
            return value[::-1]
        if chance < 0.85:
            return value[:at] + (pick.choice((0, 1, (), (0,), "a", None)),) + value[at:]
        return pick.choice(STRANGE)
    if isinstance(value, bool):
        return pick.choice((0, 1, None))
    if isinstance(value, int):
        return pick.choice((value + 1, value - 1, value + 1, value - 1, 0, 1, bool(value), None, str(value)))
    if isinstance(value, str):
        return pick.choice((value + "a", value[1:], value[::-1], "", "b", None, 0, (value,)))
    return pick.choice((0, (), "a", 1))


def reordered(value):
    """The value with tests and the rows of tables in order again, where they can be ordered."""
    if not isinstance(value, tuple):
        return value
    parts = tuple(reordered(part) for part in value)
    if len(parts) < 2 or not all(isinstance(part, tuple) for part in parts):
        return parts
    if all(isinstance(kind, int) for part in parts for kind in part):
        return tuple(sorted(dict.fromkeys(parts), key=lambda word: (len(word), word)))
    try:
        return tuple(sorted(dict.fromkeys(parts)))
    except TypeError:
        return parts


def retested(pick, tests, kinds):
    """The tests with some words left out, and some put in."""
    if not all(isinstance(test, tuple) and all(type(kind) is int for kind in test) for test in tests):
        return tests
    words = [test for test in tests if test == () or pick.random() < 0.9]
    for _ in range(pick.choice((0, 1, 2))):
        words.append(pick.choice(words) + tuple(pick.randrange(kinds) for _ in range(pick.randint(1, 2))))
    return tuple(sorted(set(words), key=lambda word: (len(word), word)))


def retold(pick, certificate):
    """The certificate with a paper of the same form that need not be right."""
    verdict, claim, paper = certificate
    kinds = len(claim[1][1][0]) + (claim[0] == "exchange")
    with_tests = claim[0] in ("alike", "within", "first", "tests", "fine", "sure", "exchange")
    if with_tests and isinstance(paper, tuple) and paper[:1] == ((),):
        return verdict, claim, retested(pick, paper, kinds)
    if claim[0] in ("tests", "fine") and isinstance(paper, tuple) and paper[:1] in (("fewer",), ("more",)):
        if isinstance(paper[1], tuple) and paper[1][:1] == ((),):
            return verdict, claim, (pick.choice(("fewer", "more")), retested(pick, paper[1], kinds))
    return verdict, claim, reordered(mutated(pick, paper))
