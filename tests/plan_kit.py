"""Plans for tests: some of each word, some as it comes; rows that are handed
in; and the models that a plan's words tell."""

from giftstreams.groups import Groups
from giftstreams.sources import Listed
from giftstreams.splits import split
from tests import model
from tests.helpers import GREAT, scripted

ADD = (("add", 2),)
SMALL = (("below", 7),)
LEAF = ("list", (5, -1, 3))

# At least one of each of the sixteen words, at and between its bounds.
PLANS = [
    ("list", ()), LEAF, ("list", (0, -GREAT, GREAT)), ("list", tuple(range(60))),
    ("broken", (), "a"), ("broken", (4, 4), "torn"), ("broken", (-1,), "abcdefgh"),
    ("count", 0, 0, 0), ("count", 3, -2, 4), ("count", -GREAT, GREAT, 200),
    ("row", 0), ("row", 7), ("row", 59),
    ("turn", (), LEAF), ("turn", ADD, LEAF),
    ("turn", (("times", -3), ("rest", 4), ("one",), ("sum",), ("one",)), ("row", 1)),
    ("sieve", (), LEAF), ("sieve", SMALL, LEAF), ("sieve", (("rest", 2, 1), ("below", 4)), ("row", 0)),
    ("sieve", (("after", (("times", 2),), (("after", ADD, SMALL), ("rest", 1, 0))),), LEAF),
    ("upto", (), LEAF), ("upto", SMALL, LEAF), ("upto", (("after", (), (("rest", 9, 8),)),), LEAF),
    ("cut", 0, LEAF), ("cut", 2, LEAF), ("cut", 200, LEAF),
    ("left", 0, LEAF), ("left", 1, LEAF), ("left", 200, LEAF),
    ("chain", ()), ("chain", (LEAF,)), ("chain", (LEAF, ("chain", ()), ("row", 3))),
    ("chain", (LEAF,) * 6),
    ("beside", (LEAF,)), ("beside", (("row", 2), LEAF)), ("beside", (LEAF,) * 6),
    ("ahead", LEAF), ("ahead", ("ahead", ("row", 4))),
    ("windows", 1, 1, LEAF), ("windows", 20, 20, LEAF), ("windows", 2, 3, LEAF),
    ("marks", 1, LEAF), ("marks", 3, LEAF), ("marks", GREAT, LEAF),
    ("spare", LEAF, LEAF), ("spare", ("broken", (1,), "torn"), ("row", 5)),
    ("wanted", 0, "a", LEAF), ("wanted", 3, "few", LEAF), ("wanted", 200, "abcdefgh", LEAF)]


def deep_plan(depth):
    """As many plans, each in the next one."""
    plan = LEAF
    for at in range(depth - 1):
        plan = [
            ("turn", ADD, plan), ("ahead", plan), ("chain", (plan,)), ("left", 0, plan),
            ("spare", plan, ("list", ())), ("cut", 200, plan), ("beside", (plan,)),
            ("wanted", 1, "few", plan), ("sieve", (("rest", 1, 0),), plan)][at % 9]
    return plan


def wide_plan():
    """A plan of sixty parts."""
    parts = tuple(
        ("turn", ADD, ("cut", at, ("sieve", SMALL, ("count", at, 1, 9)))) for at in range(6))
    several = ("chain", parts)
    return ("beside", (
        several, ("ahead", several),
        ("chain", (("row", 0), LEAF, ("ahead", LEAF), ("row", 1), LEAF, LEAF))))


def parts_of(plan):
    """All parts of a plan with their places."""
    found = [((), plan)]
    inner = [thing for thing in plan[1:] if isinstance(thing, tuple) and is_inner(thing)]
    if plan[0] in ("chain", "beside"):
        inner = plan[1]
    for number, lower in enumerate(inner):
        found += [((number, *place), part) for place, part in parts_of(lower)]
    return found


def is_inner(thing):
    return bool(thing) and isinstance(thing[0], str)


def replaced(plan, place, part):
    """The plan with another part at this place."""
    if not place:
        return part
    if plan[0] in ("chain", "beside"):
        plans = list(plan[1])
        plans[place[0]] = replaced(plans[place[0]], place[1:], part)
        return (plan[0], tuple(plans))
    places = [at for at in range(1, len(plan)) if isinstance(plan[at], tuple) and is_inner(plan[at])]
    at = places[place[0]]
    return (*plan[:at], replaced(plan[at], place[1:], part), *plan[at + 1:])


class Planner:
    """Plans as they come, each row named at most once."""

    def __init__(self, seed, words, rows):
        self.chance = model.Chance(seed)
        self.words = words
        self.rows = list(range(rows))

    def numbers(self, most):
        return tuple(self.chance.below(12) - 3 for _ in range(self.chance.below(most)))

    def rule(self):
        parts = [("add", self.chance.below(7) - 3), ("times", self.chance.below(5) - 2),
                 ("rest", 1 + self.chance.below(9)), ("one",), ("sum",)]
        return tuple(self.chance.one_of(parts) for _ in range(self.chance.below(3)))

    def test(self):
        m = 2 + self.chance.below(3)
        parts = [("rest", m, self.chance.below(m)), ("below", self.chance.below(25)),
                 ("after", self.rule(), (("below", 3 + self.chance.below(9)),)), ("rest", 1, 0)]
        return tuple(self.chance.one_of(parts) for _ in range(self.chance.below(3)))

    def leaf(self):
        at = self.chance.below(5)
        if at < 2 and self.rows:
            return ("row", self.rows.pop(self.chance.below(len(self.rows))))
        if at == 2:
            return ("broken", self.numbers(7), self.chance.one_of(["torn", "gone"]))
        if at == 3:
            return ("count", self.chance.below(9), self.chance.below(5) - 1, self.chance.below(9))
        return ("list", self.numbers(9))

    def several(self, parts, many):
        """So many plans of so many parts together, or somewhat more."""
        return tuple(self.plan(max(1, parts // many)) for _ in range(many))

    def plan(self, parts):
        if parts <= 1:
            return self.leaf()
        word = self.chance.one_of(self.words)
        rest = parts - 1
        if word == "chain":
            return (word, self.several(rest, self.chance.below(4)))
        if word == "beside":
            return (word, self.several(rest, 1 + self.chance.below(3)))
        if word == "spare":
            return (word, *self.several(rest, 2))
        behind = {
            "turn": (self.rule(),), "sieve": (self.test(),), "upto": (self.test(),),
            "cut": (self.chance.below(6),), "left": (self.chance.below(4),), "ahead": (),
            "windows": (1 + self.chance.below(2), 1 + self.chance.below(2)),
            "marks": (1 + self.chance.below(4),), "wanted": (self.chance.below(5), "few")}[word]
        return (word, *behind, self.plan(rest))


WORDS = ["turn", "sieve", "upto", "cut", "left", "chain", "beside", "ahead", "windows", "marks",
         "spare", "wanted"]
# Those that steps are about, more often.
STEP_WORDS = ["turn", "sieve", "upto", "cut", "left", "chain", "beside", "ahead", "windows"] * 2 + WORDS
ROWS = 5


def handed_in(log):
    """Rows of several sorts: two told by functions, two readers of a third
    one, and a group of a fourth one."""
    def script(numbers, last):
        return [*[("gift", number) for number in numbers], last]

    readers = split(scripted(script([2, 7, 4, 4, 9, 1, 6], ("fault", "worn")), log, "c"), 2)
    groups = Groups(scripted(script([1, 1, 1, 1, 1, 8, 8], ("end",)), log, "d"), lambda g: g // 5)
    groups.ask()
    return [
        scripted(script([3, 8, 5, 0, 2, 11, 7, 6], ("end",)), log, "a"),
        scripted(script([6, 6, 1, 4, 9], ("fault", "torn")), log, "b"),
        *readers, groups.group()]


def own_rows(many):
    return [Listed([at, at + 1, at + 10]) for at in range(many)]


def total(gift):
    return sum(total(part) for part in gift) if isinstance(gift, tuple) else gift


def ruled(rule, gift):
    """What a rule makes, told a second time."""
    for word, *numbers in rule:
        if word == "one":
            gift = (gift,)
        elif word == "sum":
            gift = total(gift)
        else:
            act = {"add": int.__add__, "times": int.__mul__, "rest": int.__mod__}[word]
            gift = part_by_part(act, gift, numbers[0])
    return gift


def part_by_part(act, gift, number):
    if isinstance(gift, tuple):
        return tuple(part_by_part(act, part, number) for part in gift)
    return act(gift, number)


def holds(test, gift):
    """Whether a test holds, told a second time."""
    for word, *things in test:
        if word == "rest" and total(gift) % things[0] != things[1]:
            return False
        if word == "below" and total(gift) >= things[0]:
            return False
        if word == "after" and not holds(things[1], ruled(things[0], gift)):
            return False
    return True


def source_model(numbers, last):
    script = [*[("gift", number) for number in numbers], last]
    return model.MSource(script, model.Log(), "own")


def model_of(plan, rows):
    """The model of the row that the plan tells, upon these models."""
    word, things = plan[0], plan[1:]
    low = [model_of(part, rows) for place, part in parts_of(plan) if len(place) == 1]
    if word == "list":
        return source_model(things[0], ("end",))
    if word == "broken":
        return source_model(things[0], ("fault", things[1]))
    if word == "count":
        first, step, many = things
        return source_model([first + at * step for at in range(many)], ("end",))
    if word == "row":
        return rows[things[0]]
    if word == "turn":
        return model.MTurned(low[0], lambda gift: ruled(things[0], gift))
    if word in ("sieve", "upto"):
        sort = model.MSieved if word == "sieve" else model.MUpto
        return sort(low[0], lambda gift: holds(things[0], gift))
    if word == "marks":
        return model.MGroups(low[0], lambda gift: total(gift) % things[0])
    if word in ("chain", "beside", "spare"):
        return {"chain": model.MChained, "beside": model.MBeside, "spare": model.MSpare}[word](*low)
    sort = {"cut": model.MCut, "left": model.MLeft, "ahead": model.MAhead,
            "windows": model.MWindows, "wanted": model.MWanted}[word]
    return sort(low[0], *things[:-1])
