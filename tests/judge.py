"""What the document says of claims and certificates, done slowly: what first_fault should return."""

from fewtests.errors import InvalidForm, InvalidWriter
from fewtests.forms import effect, require_form
from fewtests.runs import behind, text_for
from fewtests.shadows import pair_shadow, shadow
from fewtests.sums import is_fine_sum
from fewtests.writers import is_small, require_writer
from reference import is_sum_of, pair_behind, place_of

TWO_WRITERS = ("alike", "within", "first", "tests", "surplus", "endless")
PARTS = {
    "alike": 3, "within": 3, "first": 4, "tests": 4, "fine": 4, "sure": 4, "meets": 3, "written": 4, "surplus": 5,
    "endless": 4, "exchange": 4,
}


def is_number(value, least, most):
    return type(value) is int and least <= value <= most


def is_letters(value, most):
    return type(value) is str and len(value) <= most and all(sign in "abcdefghijklmnopqrstuvwxyz" for sign in value)


def is_kinds(value, kinds, most):
    return type(value) is tuple and len(value) <= most and all(is_number(kind, 0, kinds - 1) for kind in value)


def is_tuple(value, many=None):
    return type(value) is tuple and (many is None or len(value) == many)


def is_tests(value, kinds):
    if not is_tuple(value) or not value or value[0] != ():
        return False
    if not all(is_kinds(word, kinds, 300) for word in value):
        return False
    return all(place_of(one) < place_of(two) for one, two in zip(value, value[1:]))


def is_small_writer(value):
    try:
        return is_small(require_writer(value))
    except InvalidWriter:
        return False


def is_form(value):
    try:
        return require_form(value) == value
    except InvalidForm:
        return False


def is_prices(value):
    return is_tuple(value, 26) and all(is_number(price, -9, 9) for price in value)


def valid(claim):
    if not is_tuple(claim) or not claim or type(claim[0]) is not str or PARTS.get(claim[0]) != len(claim):
        return False
    name = claim[0]
    many = 2 if name in TWO_WRITERS else 1
    if not all(is_small_writer(writer) for writer in claim[1:1 + many]):
        return False
    kinds = len(claim[1][1][0])
    if many == 2 and len(claim[2][1][0]) != kinds:
        return False
    rest = claim[1 + many:]
    if name in ("fine", "sure") and not (is_kinds(rest[0], kinds, 60) and behind(claim[1], rest[0]) is not None):
        return False
    return {
        "alike": lambda: True,
        "within": lambda: True,
        "first": lambda: is_kinds(rest[0], kinds, 1000),
        "tests": lambda: is_number(rest[0], 1, 1000),
        "fine": lambda: is_number(rest[1], 1, 1000),
        "sure": lambda: rest[1] is None or is_letters(rest[1], 20000),
        "meets": lambda: is_form(rest[0]) and len(rest[0][1]) ** (len(rest[0][1]) * len(claim[1][0])) <= 1000,
        "written": lambda: is_letters(rest[0], 4) and (rest[1] is None or is_number(rest[1], 0, 10 ** 60)),
        "surplus": lambda: is_prices(rest[0]) and (rest[1] is None or is_number(rest[1], -10 ** 9, 10 ** 9)),
        "endless": lambda: is_prices(rest[0]),
        "exchange": lambda: all(is_kinds(word, kinds, 4) for word in rest),
    }[name]()


def judge(certificate):
    if not is_tuple(certificate, 3):
        return ("form",)
    verdict, claim, paper = certificate
    if not valid(claim):
        return ("claim",)
    if type(verdict) is not str or verdict not in ("shown", "broken"):
        return ("paper",)
    told = {
        "alike": judge_alike, "within": judge_alike, "first": judge_first, "tests": judge_number, "fine": judge_number,
        "sure": judge_sure, "meets": judge_meets, "written": judge_written, "surplus": judge_surplus,
        "endless": judge_surplus, "exchange": judge_exchange,
    }[claim[0]]
    return told(verdict == "shown", claim, paper)


def with_mark(writer, word):
    begins, rules, ends = writer
    rows = []
    for state, row in enumerate(rules):
        # A sign for each buffer, none of which is a letter, tells where the buffer goes.
        situation = (state, tuple("0123456789"[at] for at in range(len(begins))))
        for kind in word:
            if situation is not None:
                entry = rules[situation[0]][kind]
                situation = None if entry is None else (entry[0], tuple(
                    "".join(part if isinstance(part, str) else situation[1][part] for part in recipe)
                    for recipe in entry[1]
                ))
        rows.append(row + (None if situation is None else (situation[0], tuple(map(recipe_from, situation[1]))),))
    return begins, tuple(rows), ends


def recipe_from(text):
    parts = []
    for sign in text:
        if sign in "0123456789":
            parts.append(int(sign))
        elif parts and isinstance(parts[-1], str):
            parts[-1] += sign
        else:
            parts.append(sign)
    return tuple(parts)


def differs(first, second, word):
    return text_for(first, word) != text_for(second, word)


def judge_words(first, second, tests, inside):
    for j, test in enumerate(tests):
        pair = pair_behind(first, second, test)
        if pair is None or (inside and pair[0] is None):
            return ("gone", j)
    for j, test in enumerate(tests):
        if differs(first, second, test) and not (inside and text_for(first, test) is None):
            return ("differ", j)
    return None


def judge_open(first, second, tests, inside, before=None):
    for j, test in enumerate(tests):
        for kind in range(len(first[1][0])):
            word = test + (kind,)
            pair = pair_behind(first, second, word)
            if pair is None or (inside and pair[0] is None) or (before is not None and place_of(word) >= before):
                continue
            usable = [other for other in tests if before is None or place_of(other) <= place_of(word)]
            rows = [pair_shadow(first, second, other) for other in usable if pair_behind(first, second, other) == pair]
            if not is_sum_of(rows, pair_shadow(first, second, word)):
                return ("open", j, kind)
    return None


def judge_alike(shown, claim, paper):
    name, first, second = claim
    inside = name == "within"
    kinds = len(first[1][0])
    if shown:
        if not is_tests(paper, kinds):
            return ("paper",)
        return judge_words(first, second, paper, inside) or judge_open(first, second, paper, inside)
    if not is_kinds(paper, kinds, 3000):
        return ("paper",)
    right = differs(first, second, paper) and not (inside and text_for(first, paper) is None)
    return None if right else ("word",)


def judge_exchange(shown, claim, paper):
    _, writer, s, t = claim
    if shown:
        return judge_alike(True, ("alike", with_mark(writer, s), with_mark(writer, t)), paper)
    if not is_tuple(paper, 2) or not all(is_kinds(word, len(writer[1][0]), 3000) for word in paper):
        return ("paper",)
    u, v = paper
    return None if text_for(writer, u + s + v) != text_for(writer, u + t + v) else ("word",)


def judge_first(shown, claim, paper):
    _, first, second, word = claim
    kinds = len(first[1][0])
    if shown and word == ():
        if paper != ():
            return ("paper",)
        return None if differs(first, second, word) else ("word",)
    if shown:
        if not is_tests(paper, kinds):
            return ("paper",)
        if not differs(first, second, word):
            return ("word",)
        for j, test in enumerate(paper):
            if place_of(test) >= place_of(word):
                return ("late", j)
        found = judge_words(first, second, paper, False)
        return found or judge_open(first, second, paper, False, place_of(word))
    if paper == ("same",):
        return ("word",) if differs(first, second, word) else None
    if not is_tuple(paper, 2) or paper[0] != "earlier" or not is_kinds(paper[1], kinds, 3000):
        return ("paper",)
    if place_of(paper[1]) >= place_of(word):
        return ("late",)
    return None if differs(first, second, paper[1]) else ("word",)


def judge_number(shown, claim, paper):
    n = claim[3]
    sort, tests = ("shown", paper) if shown else paper if is_tuple(paper, 2) else (None, None)
    if not isinstance(sort, str) or (not shown and sort not in ("fewer", "more")):
        return ("paper",)
    if not is_tests(tests, len(claim[1][1][0])):
        return ("paper",)
    if claim[0] == "tests":
        keys = [pair_behind(claim[1], claim[2], test) for test in tests]
        rows = [pair_shadow(claim[1], claim[2], test) for test in tests]
    else:
        found = [behind(claim[1], claim[2] + test) for test in tests]
        keys = [None if situation is None else situation[0] for situation in found]
        rows = [None if situation is None else shadow(situation) for situation in found]
    if None in keys:
        return ("gone", keys.index(None))
    many = len(tests)
    if not {"shown": many == n, "fewer": many < n, "more": many > n}[sort]:
        return ("count",)
    if sort != "fewer":
        for j, row in enumerate(rows):
            if is_sum_of([other for key, other in zip(keys[:j], rows) if key == keys[j]], row):
                return ("double", j)
    if sort == "more":
        return None
    if claim[0] == "tests":
        return judge_open(claim[1], claim[2], tests, False)
    return judge_fine(claim[1], claim[2], tests)


def judge_fine(writer, word, tests):
    situations = [behind(writer, word + test) for test in tests]
    for j, test in enumerate(tests):
        for kind in range(len(writer[1][0])):
            later = behind(writer, word + test + (kind,))
            if later is not None:
                rows = tuple(shadow(other) for other in situations if other[0] == later[0])
                if not is_fine_sum(rows, shadow(later)):
                    return ("open", j, kind)
    return None


def judge_sure(shown, claim, paper):
    _, writer, word, text = claim
    if not is_tests(paper, len(writer[1][0])):
        return ("paper",)
    for j, test in enumerate(paper):
        if behind(writer, word + test) is None:
            return ("gone", j)
    found = judge_fine(writer, word, paper)
    if found is not None:
        return found
    texts = [text_for(writer, word + test) for test in paper]
    texts = [other for other in texts if other is not None]
    common = None
    for many in range(len(min(texts, key=len)) + 1) if texts else []:
        if len({other[:many] for other in texts}) == 1:
            common = texts[0][:many]
    return None if (common == text) == shown else ("text",)


def judge_meets(shown, claim, paper):
    _, writer, form = claim
    begins, rules, ends = writer
    if shown:
        if not is_kinds(paper, len(rules[0]), 3000):
            return ("paper",)
        text = text_for(writer, paper)
        if text is None:
            return ("word",)
        return None if effect(form, text)[0] in form[2] else ("text",)
    states = len(form[1])

    def is_row(row):
        if not is_tuple(row, 2) or not is_number(row[0], 0, len(rules) - 1) or not is_tuple(row[1], len(begins)):
            return False
        return all(is_tuple(one, states) and all(is_number(s, 0, states - 1) for s in one) for one in row[1])

    def made(recipe, effects):
        found = tuple(range(states))
        for part in recipe:
            step = effect(form, part) if isinstance(part, str) else effects[part]
            found = tuple(step[state] for state in found)
        return found

    if not is_tuple(paper) or not all(map(is_row, paper)) or not all(a < b for a, b in zip(paper, paper[1:])):
        return ("paper",)
    if (0, tuple(effect(form, text) for text in begins)) not in paper:
        return ("start",)
    for r, (state, effects) in enumerate(paper):
        for kind, entry in enumerate(rules[state]):
            if entry and (entry[0], tuple(made(recipe, effects) for recipe in entry[1])) not in paper:
                return ("step", r, kind)
    for r, (state, effects) in enumerate(paper):
        if ends[state] is not None and made(ends[state], effects)[0] in form[2]:
            return ("end", r)
    return None


def judge_written(shown, claim, paper):
    _, writer, text, n = claim
    kinds = len(writer[1][0])
    if shown:
        sort, part = ("endless" if n is None else "table"), paper
    else:
        sort, part = paper if is_tuple(paper, 2) else (None, None)
        if sort not in ("table", "endless") or (sort == "endless" and n is None):
            return ("paper",)
    if sort == "endless":
        if not is_tuple(part, 3) or not all(is_kinds(word, kinds, 3000) for word in part):
            return ("paper",)
        return judge_again(writer, text, part)
    found = judge_counts(writer, text, part)
    if found is not None:
        return found
    start = (0, tuple(content_of(begin, text) for begin in writer[0]))
    count = [row[2] for row in part if row[:2] == start][0]
    return None if (count == n) == shown else ("count",)


def content_of(piece, text):
    return (1, piece) if piece in text else (0,)


def judge_counts(writer, text, rows):
    begins, rules, ends = writer

    def is_content(value):
        if is_tuple(value, 1):
            return is_number(value[0], 0, 0)
        return is_tuple(value, 2) and is_number(value[0], 1, 1) and type(value[1]) is str and value[1] in text

    def is_row(row):
        if not is_tuple(row, 4) or not is_number(row[0], 0, len(rules) - 1) or not is_tuple(row[1], len(begins)):
            return False
        return all(map(is_content, row[1])) and is_number(row[2], 0, 10 ** 60) and is_number(row[3], 0, 5000)

    def made(recipe, contents):
        if any(not isinstance(part, str) and contents[part] == (0,) for part in recipe):
            return (0,)
        return content_of("".join(part if isinstance(part, str) else contents[part][1] for part in recipe), text)

    if not is_tuple(rows) or not all(map(is_row, rows)) or not all(a[:2] < b[:2] for a, b in zip(rows, rows[1:])):
        return ("paper",)
    known = {row[:2]: row for row in rows}
    if (0, tuple(content_of(begin, text) for begin in begins)) not in known:
        return ("start",)
    later = []
    for r, (state, contents, _, _) in enumerate(rows):
        later.append([])
        for kind, entry in enumerate(rules[state]):
            if entry:
                place = (entry[0], tuple(made(recipe, contents) for recipe in entry[1]))
                if place not in known:
                    return ("step", r, kind)
                later[r].append(known[place])
    for r, (state, contents, count, _) in enumerate(rows):
        end = ends[state] is not None and made(ends[state], contents) == (1, text)
        if count != sum(row[2] for row in later[r]) + (1 if end else 0):
            return ("sum", r)
    for r, row in enumerate(rows):
        if row[2] and any(other[2] and other[3] >= row[3] for other in later[r]):
            return ("height", r)
    return None


def ways(writer, word):
    """The fates behind each beginning of a word that is written, by what comes into the text: by single letters."""
    state, entries = 0, []
    for kind in word:
        entries.append(writer[1][state][kind])
        state = entries[-1][0]
    fates = [tuple(1 if buffer in writer[2][state] else 0 for buffer in range(len(writer[0])))]
    for _, fills in entries[::-1]:
        fate = [0] * len(fills)
        for to, recipe in enumerate(fills):
            for part in recipe:
                if not isinstance(part, str):
                    fate[part] = fates[0][to]
        fates.insert(0, tuple(fate))
    return fates


def judge_again(writer, text, parts):
    u, v, w = parts
    if text_for(writer, u + v + w) != text:
        return ("word",)
    if not v:
        return ("empty",)
    one, two = behind(writer, u), behind(writer, u + v)
    if one[0] != two[0]:
        return ("state",)
    fates = ways(writer, u + v + w)
    if fates[len(u)] != fates[len(u) + len(v)]:
        return ("fate",)
    if any(fate and a != b for fate, a, b in zip(fates[len(u)], one[1], two[1])):
        return ("text",)
    return None


def text_worth(prices, text):
    return sum(prices["abcdefghijklmnopqrstuvwxyz".index(letter)] for letter in text)


def judge_surplus(shown, claim, paper):
    name, first, second, prices = claim[:4]
    n = claim[4] if name == "surplus" else None
    kinds = len(first[1][0])
    if name == "endless":
        sort, part = ("endless" if shown else "table"), paper
    elif shown and n is not None:
        if not is_tuple(paper, 2) or not is_kinds(paper[0], kinds, 3000) or not is_heights(first, second, paper[1]):
            return ("paper",)
        found = gain(first, second, prices, paper[0])
        if found != n:
            return ("word",) if found is None else ("sum",)
        sort, part = "table", paper[1]
    elif shown:
        sort, part = "table", paper
    else:
        sort, part = paper if is_tuple(paper, 2) else (None, None)
        if sort not in ("more", "endless", "less") or (sort == "less" and n is None):
            return ("paper",)
    if sort == "more":
        if not is_kinds(part, kinds, 3000):
            return ("paper",)
        found = gain(first, second, prices, part)
        if found is None:
            return ("word",)
        return None if n is None or found > n else ("sum",)
    if sort == "endless":
        if not is_tuple(part, 3) or not all(is_kinds(word, kinds, 3000) for word in part):
            return ("paper",)
        return judge_rise(first, second, prices, part)
    found = judge_heights(first, second, prices, part)
    if found is not None or name == "endless":
        return found
    bound = bound_by(first, second, prices, part)
    if shown and n is None:
        return ("bound",) if part[1] else None
    if shown:
        return None if bound == n else ("bound",)
    return None if bound is None or bound < n else ("bound",)


def gain(first, second, prices, word):
    one, two = text_for(first, word), text_for(second, word)
    return None if one is None or two is None else text_worth(prices, one) - text_worth(prices, two)


def states_of(writer, word):
    return [behind(writer, word[:many])[0] for many in range(len(word) + 1)]


def judge_rise(first, second, prices, parts):
    u, v, w = parts
    word = u + v + w
    if gain(first, second, prices, word) is None:
        return ("word",)
    joints = list(zip(states_of(first, word), ways(first, word), states_of(second, word), ways(second, word)))
    if joints[len(u)] != joints[len(u) + len(v)]:
        return ("state",)
    # More of v brings as much more each time.
    once, twice = gain(first, second, prices, u + v + v + w), gain(first, second, prices, u + v + v + v + w)
    return None if twice - once > 0 else ("weight",)


def is_heights(first, second, value):
    if not is_tuple(value, 2) or not is_tuple(value[0]) or not is_tuple(value[1]):
        return False

    def is_pair(p, q):
        return is_number(p, 0, len(first[1]) - 1) and is_number(q, 0, len(second[1]) - 1)

    def is_fate(fate, writer):
        return is_tuple(fate, len(writer[0])) and all(is_number(one, 0, 1) for one in fate)

    def is_row(row):
        if not is_tuple(row, 5) or not is_pair(row[0], row[2]) or (row[0], row[2]) not in value[0]:
            return False
        return is_fate(row[1], first) and is_fate(row[3], second) and is_number(row[4], -10 ** 9, 10 ** 9)

    pairs, rows = value
    if not all(is_tuple(pair, 2) and is_pair(*pair) for pair in pairs) or (0, 0) not in pairs:
        return False
    if not all(a < b for a, b in zip(pairs, pairs[1:])) or not all(map(is_row, rows)):
        return False
    return all(a[:4] < b[:4] for a, b in zip(rows, rows[1:]))


def piece_worth(prices, recipe):
    return sum(text_worth(prices, part) for part in recipe if isinstance(part, str))


def judge_heights(first, second, prices, table):
    if not is_heights(first, second, table):
        return ("paper",)
    pairs, rows = table
    heights = {row[:4]: row[4] for row in rows}
    steps = []
    for k, (p, q) in enumerate(pairs):
        for kind, (one, two) in enumerate(zip(first[1][p], second[1][q])):
            if one and two:
                if (one[0], two[0]) not in pairs:
                    return ("pair", k, kind)
                steps.append((p, q, kind, one, two))
    for k, (p, q) in enumerate(pairs):
        if first[2][p] is not None and second[2][q] is not None:
            f = tuple(1 if buffer in first[2][p] else 0 for buffer in range(len(first[0])))
            g = tuple(1 if buffer in second[2][q] else 0 for buffer in range(len(second[0])))
            value = piece_worth(prices, first[2][p]) - piece_worth(prices, second[2][q])
            if heights.get((p, f, q, g), value - 1) < value:
                return ("end", k)
    for r, row in enumerate(rows):
        for kind in range(len(first[1][0])):
            for p, q, other, one, two in steps:
                if other == kind and (one[0], two[0]) == (row[0], row[2]):
                    f, up = step_back(prices, one[1], row[1])
                    g, down = step_back(prices, two[1], row[3])
                    if heights.get((p, f, q, g), -10 ** 12) < row[4] + up - down:
                        return ("step", r, kind)
    return None


def step_back(prices, fills, later):
    fate, weight = [0] * len(fills), 0
    for to, recipe in enumerate(fills):
        if later[to]:
            weight += piece_worth(prices, recipe)
            for part in recipe:
                if not isinstance(part, str):
                    fate[part] = 1
    return tuple(fate), weight


def bound_by(first, second, prices, table):
    found = []
    for p, f, q, g, height in table[1]:
        if (p, q) == (0, 0):
            up = sum(text_worth(prices, text) for text, fate in zip(first[0], f) if fate)
            down = sum(text_worth(prices, text) for text, fate in zip(second[0], g) if fate)
            found.append(up - down + height)
    return max(found, default=None)
