"""Nets of the program's rows and of the models, grown and asked together."""

from giftstreams.ahead import Ahead
from giftstreams.cuts import Cut, Left, Upto
from giftstreams.groups import Group, Groups
from giftstreams.joined import Beside, Chained
from giftstreams.nets import sources_of
from giftstreams.plans import grown
from giftstreams.spares import Spare, Wanted
from giftstreams.splits import Reader, split
from giftstreams.turned import Sieved, Turned
from giftstreams.windows import Windows
from tests import model
from tests.helpers import scripted
from tests.likeness import is_even, is_light, mark, weight, with_weight
from tests.plan_kit import WORDS, Planner, model_of

ENDS = [("end",), ("end",), ("fault", "torn"), ("fault", "gone"), ("fault", "")]


def is_light_or_odd(thing):
    return is_light(thing) or not is_even(thing)


def of_sort(sort, rows, chance):
    """A row and a model of this sort upon these twins, and how great its
    gifts may be."""
    real, likened = [twin.row for twin in rows], [twin.model for twin in rows]
    bulk = max(twin.bulk for twin in rows)
    one, m_one = real[0], likened[0]
    n, size, step = chance.below(5), 1 + chance.below(3), 1 + chance.below(4)
    if sort == "turned":
        turn = chance.one_of([weight, with_weight])
        return Turned(one, turn), model.MTurned(m_one, turn), 1 if turn == weight else bulk + 1
    if sort == "sieved":
        return Sieved(one, is_even), model.MSieved(m_one, is_even), bulk
    if sort == "upto":
        return Upto(one, is_light_or_odd), model.MUpto(m_one, is_light_or_odd), bulk
    if sort == "cut":
        return Cut(one, n), model.MCut(m_one, n), bulk
    if sort == "left":
        return Left(one, n), model.MLeft(m_one, n), bulk
    if sort == "ahead":
        return Ahead(one), model.MAhead(m_one), bulk
    if sort == "windows":
        return Windows(one, size, step), model.MWindows(m_one, size, step), bulk * size
    if sort == "groups":
        return Groups(one, mark), model.MGroups(m_one, mark), 1
    if sort == "wanted":
        return Wanted(one, n, "bare"), model.MWanted(m_one, n, "bare"), bulk
    if sort == "spare":
        return Spare(one, real[1]), model.MSpare(m_one, likened[1]), bulk
    if sort == "chained":
        return Chained(real), model.MChained(*likened), bulk
    return Beside(real), model.MBeside(*likened), sum(twin.bulk for twin in rows)


SORTS = {
    "turned": 1, "sieved": 1, "upto": 1, "cut": 1, "left": 1, "ahead": 1, "windows": 1, "groups": 1,
    "wanted": 1, "spare": 2, "chained": 3, "beside": 2}


class Twin:
    """A row, its model, and how many numbers its gifts may bear."""

    def __init__(self, row, likened, bulk):
        self.row = row
        self.model = likened
        self.bulk = bulk

    def is_free(self):
        return not self.model.held and not self.model.closed


class Net:
    """Many twins; what is done to the rows is done to the models too."""

    def __init__(self, seed, scripts):
        self.chance = model.Chance(seed)
        self.log, self.m_log = [], model.Log()
        self.twins = []
        for at, script in enumerate(scripts):
            name = f"s{at}"
            self.add(scripted(script, self.log, name), model.MSource(script, self.m_log, name), 1)

    def add(self, row, likened, bulk):
        self.twins.append(Twin(row, likened, bulk))
        return self.twins[-1]

    def free(self):
        return [twin for twin in self.twins if twin.is_free()]

    def grow(self):
        """Put a new row upon some free ones."""
        sort = self.chance.one_of(list(SORTS))
        free = self.free()
        if len(free) < SORTS[sort]:
            return
        rows = []
        for _ in range(SORTS[sort]):
            rows.append(free.pop(self.chance.below(len(free))))
        if sum(twin.bulk for twin in rows) > 60 or max(twin.model.depth() for twin in rows) > 15:
            return
        self.add(*of_sort(sort, rows, self.chance))

    def grow_plan(self):
        """Put what a plan tells upon some free ones."""
        free = [twin for twin in self.free() if twin.bulk < 5 and twin.model.depth() < 10]
        rows = [free.pop(self.chance.below(len(free))) for _ in range(min(3, len(free)))]
        planner = Planner(self.chance.below(10 ** 6), WORDS, len(rows))
        plan = planner.plan(2 + self.chance.below(7))
        row = grown(plan, [twin.row for twin in rows])
        self.add_unknown(row, model_of(plan, [twin.model for twin in rows]), 30)

    def add_unknown(self, row, likened, bulk):
        if any(twin.row is row for twin in self.twins):
            return
        self.add(row, likened, bulk)
        for lower, lower_likened in zip(row.beneath(), likened.low):
            self.add_unknown(lower, lower_likened, bulk)

    def split(self, twin):
        many = 1 + self.chance.below(3)
        if twin.model.depth() > 15:
            return
        for reader, likened in zip(split(twin.row, many), model.split(twin.model, many)):
            self.add(reader, likened, twin.bulk)

    def copy(self, twin):
        self.add_copy(twin.row.copied(), model.copied(twin.model), twin.bulk)

    def add_copy(self, row, likened, bulk):
        """All rows of a copy are known, too, with their newest groups."""
        self.add(row, likened, bulk)
        if isinstance(likened, model.MGroups) and likened.groups and likened.low:
            if not likened.held:
                self.add(row.group(), likened.groups[-1], 60)
        for lower, lower_likened in zip(row.beneath(), likened.low):
            self.add_copy(lower, lower_likened, bulk)

    def group(self, twin):
        group = twin.row.group()
        if all(known.row is not group for known in self.twins):
            self.add(group, twin.model.groups[-1], 60)

    def told_of(self, twin):
        """What is told of the row, and what of its model."""
        row, likened = twin.row, twin.model
        of_row = [row.is_over(), row.is_closed(), row.is_held()]
        of_model = [likened.over, likened.closed, likened.held]
        if isinstance(row, Reader):
            of_row += [row.kept(), row.place()]
            of_model += [likened.shared.kept(), likened.place]
        if isinstance(row, Spare):
            of_row.append(row.noted())
            of_model.append(likened.noted())
        if isinstance(row, Group):
            of_row.append(len(row.beneath()))
            of_model.append(0)
        of_row.append([source.drawn() for source in sources_of(row)])
        of_model.append([source.drawn for source in likened.sources()])
        return of_row, of_model
