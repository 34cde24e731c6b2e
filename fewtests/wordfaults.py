"""Word faults: what is wrong with a paper that shows or breaks a claim by test words."""

from fewtests.checks import first_true
from fewtests.deciding import sure_by_tests
from fewtests.exchange import marked
from fewtests.gaps import double_at, fine_open_at, gone_at, joints_of, open_at, open_before, situations_of
from fewtests.runs import differ, text_for
from fewtests.shadows import shadow_of
from fewtests.walks import end_number, is_parting, joint_shadow, pair_of
from fewtests.words import place_of


def fault_by_tests(shown, claim, paper):
    """Returns the first fault of a paper, of right form, for a claim that is shown by tests, or None."""
    name = claim[0]
    if name == "first":
        return _fault_of_first(shown, claim, paper)
    if name == "tests":
        return _fault_of_tests(shown, claim, paper)
    if name == "fine":
        return _fault_of_fine(shown, claim, paper)
    if name == "sure":
        return _fault_of_sure(shown, claim, paper)
    if name == "exchange":
        return _fault_of_exchange(shown, claim, paper)
    return _fault_of_alike(shown, claim, paper, name == "within")


def _fault_of_alike(shown, claim, paper, inside):
    _, first, second = claim
    if shown:
        return _fault_of_closed(first, second, paper, inside)
    counts_here = not inside or text_for(first, paper) is not None
    return None if counts_here and differ(first, second, paper) else ("word",)


def _fault_of_exchange(shown, claim, paper):
    _, writer, s, t = claim
    if shown:
        return _fault_of_closed(marked(writer, s), marked(writer, t), paper, False)
    u, v = paper
    return None if text_for(writer, u + s + v) != text_for(writer, u + t + v) else ("word",)


def _fault_of_first(shown, claim, paper):
    _, first, second, word = claim
    if not shown and paper[0] == "same":
        return ("word",) if differ(first, second, word) else None
    if not shown:
        if place_of(paper[1]) >= place_of(word):
            return ("late",)
        return None if differ(first, second, paper[1]) else ("word",)
    if not differ(first, second, word):
        return ("word",)
    late = first_true([place_of(test) >= place_of(word) for test in paper])
    if late is not None:
        return "late", late
    fault = _fault_of_joints(first, second, joints_of(first, second, paper), False)
    if fault is not None:
        return fault
    return _opened(open_before(first, second, paper, word))


def _fault_of_tests(shown, claim, paper):
    _, first, second, n = claim
    joints = joints_of(first, second, _tests_in(shown, paper))
    gone = gone_at(joints, False)
    if gone is not None:
        return "gone", gone
    fault = _fault_of_number(shown, paper, n, [(pair_of(joint), joint_shadow(joint)) for joint in joints])
    if fault is not None or not _should_cover(shown, paper):
        return fault
    return _opened(open_at(first, second, joints, False))


def _fault_of_fine(shown, claim, paper):
    _, writer, word, n = claim
    situations = situations_of(writer, word, _tests_in(shown, paper))
    if None in situations:
        return "gone", situations.index(None)
    fault = _fault_of_number(shown, paper, n, [(state, shadow_of(measures)) for state, measures in situations])
    if fault is not None or not _should_cover(shown, paper):
        return fault
    return _opened(fine_open_at(writer, situations))


def _fault_of_sure(shown, claim, paper):
    _, writer, word, text = claim
    situations = situations_of(writer, word, paper)
    if None in situations:
        return "gone", situations.index(None)
    found = fine_open_at(writer, situations)
    if found is not None:
        return _opened(found)
    is_same = sure_by_tests(writer, word, paper) == text
    return None if is_same == shown else ("text",)


def _fault_of_closed(first, second, tests, inside):
    joints = joints_of(first, second, tests)
    fault = _fault_of_joints(first, second, joints, inside)
    if fault is not None:
        return fault
    return _opened(open_at(first, second, joints, inside))


def _fault_of_joints(first, second, joints, inside):
    gone = gone_at(joints, inside)
    if gone is not None:
        return "gone", gone
    parting = first_true([_is_parting_here(first, second, joint, inside) for joint in joints])
    return None if parting is None else ("differ", parting)


def _is_parting_here(first, second, joint, inside):
    if inside and end_number(first, joint[0]) is None:
        return False
    return is_parting(first, second, joint)


def _tests_in(shown, paper):
    return paper if shown else paper[1]


def _should_cover(shown, paper):
    return shown or paper[0] == "fewer"


def _fault_of_number(shown, paper, n, rows):
    if shown:
        is_right = len(rows) == n
    else:
        is_right = len(rows) < n if paper[0] == "fewer" else len(rows) > n
    if not is_right:
        return ("count",)
    double = double_at(rows) if shown or paper[0] == "more" else None
    return None if double is None else ("double", double)


def _opened(found):
    return None if found is None else ("open",) + found
