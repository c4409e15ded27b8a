"""Steps that lead from one plan to another that answers and draws alike."""

from giftstreams.cuts import MOST_CUT
from giftstreams.errors import NoStep
from giftstreams.joined import MOST_JOINED
from giftstreams.plans import want_plan
from giftstreams.shapes import inner_plans, with_inner_plans
from giftstreams.wholes import is_whole


def steps_of(plan):
    """Tell the steps that the plan has, sorted."""
    want_plan(plan)
    return _sorted_steps(plan)


def stepped(plan, step):
    """Tell the plan that is left when the step is done."""
    want_plan(plan)
    # True and False are equal to 1 and 0, and so are places with them.
    if not _may_be_a_step(step) or step not in _sorted_steps(plan):
        raise NoStep("the plan doesn't have this step")
    return _done(plan, step[0], step[1])


def plainest(plan):
    """Tell the plan that is left when no step is, and the steps to it."""
    want_plan(plan)
    done = []
    steps = _sorted_steps(plan)
    while steps:
        done.append(steps[0])
        plan = _done(plan, steps[0][0], steps[0][1])
        steps = _sorted_steps(plan)
    return (plan, done)


def _sorted_steps(plan):
    return sorted([
        (place, name) for place, part in _parts_with_places(plan, ())
        for name, _ in _right_sides(part)])


def _parts_with_places(plan, place):
    found = [(place, plan)]
    for number, inner in enumerate(inner_plans(plan)):
        found.extend(_parts_with_places(inner, place + (number,)))
    return found


def _may_be_a_step(thing):
    if not isinstance(thing, tuple) or len(thing) != 2:
        return False
    place, name = thing
    if not isinstance(place, tuple) or not isinstance(name, str):
        return False
    return all([is_whole(number) for number in place])


def _done(plan, place, name):
    if place == ():
        return _right_side(plan, name)
    inner = inner_plans(plan)
    inner[place[0]] = _done(inner[place[0]], place[1:], name)
    return with_inner_plans(plan, inner)


# The right sides. Each is None where the part, though it is of the right
# words, is not the step's left side.

def _joined(part):
    word, upper, inner = part
    return (word, inner[1] + upper, inner[2])


def _cut_at_lesser(part):
    word, n, inner = part
    return (word, min(n, inner[1]), inner[2])


def _left_out_at_once(part):
    word, n, inner = part
    if n + inner[1] > MOST_CUT:
        return None
    return (word, n + inner[1], inner[2])


def _ahead_once(part):
    return part[1]


def _cut_of_left(part):
    word, n, inner = part
    if n >= inner[1]:
        return None
    return (inner[0], inner[1] - n, (word, n, inner[2]))


def _beneath_turn(part):
    word, n, inner = part
    return (inner[0], inner[1], (word, n, inner[2]))


def _tested_beneath_turn(part):
    word, test, inner = part
    return (inner[0], inner[1], (word, (("after", inner[1], test),), inner[2]))


def _upon_each(part):
    word, thing, inner = part
    return (inner[0], tuple([(word, thing, plan) for plan in inner[1]]))


def _chain_in_chain(part):
    plans = part[1]
    for at, plan in enumerate(plans):
        if plan[0] == "chain":
            together = plans[:at] + plan[1] + plans[at + 1:]
            return ("chain", together) if len(together) <= MOST_JOINED else None
    return None


def _chain_of_one(part):
    return part[1][0] if len(part[1]) == 1 else None


def _beside_of_one(part):
    return _turned_to_one(part[1][0]) if len(part[1]) == 1 else None


def _windows_of_one(part):
    return _turned_to_one(part[3]) if part[1] == 1 and part[2] == 1 else None


def _turned_to_one(plan):
    return ("turn", (("one",),), plan)


# By the word of a plan and that of the one plan in it.
UPON_ONE = {
    ("turn", "turn"): ("turns", _joined),
    ("sieve", "sieve"): ("sieves", _joined),
    ("upto", "upto"): ("uptos", _joined),
    ("cut", "cut"): ("cuts", _cut_at_lesser),
    ("left", "left"): ("lefts", _left_out_at_once),
    ("ahead", "ahead"): ("aheads", _ahead_once),
    ("left", "cut"): ("leftcut", _cut_of_left),
    ("cut", "turn"): ("cutturn", _beneath_turn),
    ("left", "turn"): ("leftturn", _beneath_turn),
    ("sieve", "turn"): ("sieveturn", _tested_beneath_turn),
    ("upto", "turn"): ("uptoturn", _tested_beneath_turn),
    ("turn", "chain"): ("turnchain", _upon_each),
    ("sieve", "chain"): ("sievechain", _upon_each),
    ("cut", "beside"): ("cutbeside", _upon_each)}


def _right_sides(part):
    """Tell the names of the steps whose left side the part is, each with
    the right side."""
    match part[0]:
        case "chain":
            found = [("chainchain", _chain_in_chain(part)), ("chainone", _chain_of_one(part))]
        case "beside":
            found = [("besideone", _beside_of_one(part))]
        case "windows":
            found = [("windowsone", _windows_of_one(part))]
        case _:
            found = _right_sides_upon_one(part)
    return [(name, right) for name, right in found if right is not None]


def _right_side(part, name):
    for found, right in _right_sides(part):
        if found == name:
            return right
    return None


def _right_sides_upon_one(part):
    inner = inner_plans(part)
    if len(inner) != 1 or (part[0], inner[0][0]) not in UPON_ONE:
        return []
    name, right_side = UPON_ONE[(part[0], inner[0][0])]
    return [(name, right_side(part))]
