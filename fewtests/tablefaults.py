"""Table faults: what is wrong with a paper that shows or breaks a claim by a table, or by a word that comes back."""

from fewtests.contents import ends_as, place_moved, place_start
from fewtests.effects import effect_moved, effect_start, effect_writer, is_accepted
from fewtests.fated import joints_along, steps_along, weight_of
from fewtests.fates import fates
from fewtests.forms import accepts
from fewtests.heights import bound_of, table_fault
from fewtests.runs import behind, text_for
from fewtests.surplus import surplus


def fault_by_tables(shown, claim, paper):
    """Returns the first fault of a paper, of right form, for a claim that is shown or broken by tables, or None."""
    name = claim[0]
    if name == "meets":
        return _fault_of_meets(shown, claim, paper)
    if name == "written":
        return _fault_of_written(shown, claim, paper)
    if name == "endless":
        return _fault_of_climbing(claim, paper) if shown else table_fault(claim[1], claim[2], claim[3], paper)
    if shown:
        return _fault_of_greatest(claim, paper)
    return _fault_of_not_greatest(claim, paper[0], paper[1])


def _fault_of_meets(shown, claim, paper):
    _, writer, form = claim
    if not shown:
        return _fault_of_form_table(writer, form, paper)
    text = text_for(writer, paper)
    if text is None:
        return ("word",)
    return None if accepts(form, text) else ("text",)


def _fault_of_form_table(writer, form, table):
    machine = effect_writer(writer, form)
    known = {row: True for row in table}
    if effect_start(machine) not in known:
        return ("start",)
    for index, row in enumerate(table):
        for kind in range(len(writer[1][0])):
            later = effect_moved(machine, row, kind)
            if later is not None and later not in known:
                return "step", index, kind
    for index, row in enumerate(table):
        if is_accepted(machine, form, row):
            return "end", index
    return None


def _fault_of_written(shown, claim, paper):
    _, writer, text, n = claim
    if shown and n is None:
        return _fault_of_coming_back(writer, text, paper)
    if not shown and paper[0] == "endless":
        return _fault_of_coming_back(writer, text, paper[1])
    table = paper if shown else paper[1]
    fault = _fault_of_count_table(writer, text, table)
    if fault is not None:
        return fault
    start = place_start(writer, text)
    is_same = [row[2] for row in table if row[:2] == start] == [n]
    return None if is_same == shown else ("count",)


def _fault_of_count_table(writer, text, table):
    known = {row[:2]: row for row in table}
    if place_start(writer, text) not in known:
        return ("start",)
    moves = []
    for index, row in enumerate(table):
        later = [place_moved(writer, text, row[:2], kind) for kind in range(len(writer[1][0]))]
        for kind, place in enumerate(later):
            if place is not None and place not in known:
                return "step", index, kind
        moves.append([known[place] for place in later if place is not None])
    for index, row in enumerate(table):
        if row[2] != sum([later[2] for later in moves[index]]) + int(ends_as(writer, text, row[:2])):
            return "sum", index
    for index, row in enumerate(table):
        if row[2] > 0 and any([later[2] > 0 and later[3] >= row[3] for later in moves[index]]):
            return "height", index
    return None


def _fault_of_coming_back(writer, text, paper):
    u, v, w = paper
    if text_for(writer, u + v + w) != text:
        return ("word",)
    if v == ():
        return ("empty",)
    state, texts = behind(writer, u)
    later_state, later_texts = behind(writer, u + v)
    if state != later_state:
        return ("state",)
    known = fates(writer, u + v + w)
    here = known[len(u)]
    if here != known[len(u + v)]:
        return ("fate",)
    if any([fate == 1 and one != two for fate, one, two in zip(here, texts, later_texts)]):
        return ("text",)
    return None


def _fault_of_climbing(claim, paper):
    first, second, prices = claim[1:4]
    u, v, w = paper
    word = u + v + w
    if surplus(first, second, prices, word) is None:
        return ("word",)
    joints = joints_along(first, second, word)
    begin, end = len(u), len(u + v)
    if joints[begin] != joints[end]:
        return ("state",)
    steps = steps_along(first, second, word)
    weight = sum([weight_of(prices, steps[at], joints[at + 1]) for at in range(begin, end)])
    return None if weight > 0 else ("weight",)


def _fault_of_greatest(claim, paper):
    _, first, second, prices, n = claim
    if n is None:
        fault = table_fault(first, second, prices, paper)
        return ("bound",) if fault is None and paper[1] else fault
    word, table = paper
    found = surplus(first, second, prices, word)
    if found != n:
        return ("word",) if found is None else ("sum",)
    fault = table_fault(first, second, prices, table)
    if fault is None and bound_of(first, second, prices, table) != n:
        return ("bound",)
    return fault


def _fault_of_not_greatest(claim, sort, part):
    _, first, second, prices, n = claim
    if sort == "endless":
        return _fault_of_climbing(claim, part)
    if sort == "more":
        found = surplus(first, second, prices, part)
        if found is None:
            return ("word",)
        return None if n is None or found > n else ("sum",)
    fault = table_fault(first, second, prices, part)
    if fault is not None:
        return fault
    bound = bound_of(first, second, prices, part)
    return None if bound is None or bound < n else ("bound",)
