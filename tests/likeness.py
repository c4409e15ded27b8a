"""A second way to tell what rows upon others answer and draw: Python's own
iterators, which draw only when somebody asks, too."""

import itertools

from giftstreams.ahead import Ahead
from giftstreams.cuts import Cut, Left, Upto
from giftstreams.groups import Groups
from giftstreams.joined import Beside, Chained
from giftstreams.spares import Spare, Wanted
from giftstreams.splits import split
from giftstreams.turned import Sieved, Turned
from giftstreams.windows import Windows
from tests.helpers import scripted

END = ("end",)


class Fault(Exception):
    """A fault on its way up through iterators."""


def iterated(script, counts, at):
    """The script as an iterator that counts how often it was drawn."""
    for answer in script:
        counts[at] += 1
        if answer[0] == "fault":
            raise Fault(answer[1])
        if answer[0] == "end":
            return
        yield answer[1]


def for_good(iterator):
    """The iterator, but once it has ended it draws nothing more."""
    yield from iterator


class Likeness:
    """An iterator that is asked as a row."""

    def __init__(self, iterator):
        self.iterator = iterator
        self.over = False

    def ask(self):
        if self.over:
            return END
        try:
            return ("gift", next(self.iterator))
        except StopIteration:
            self.over = True
            return END
        except Fault as fault:
            self.over = True
            return ("fault", str(fault))


def weight(thing):
    if isinstance(thing, tuple):
        return len(thing) + sum(weight(part) for part in thing)
    return thing


def is_even(thing):
    return weight(thing) % 2 == 0


def is_light(thing):
    return weight(thing) < 30


def with_weight(thing):
    return (weight(thing), thing)


def mark(thing):
    return weight(thing) // 4 % 3


def windows(iterator, size, step):
    """Whole windows alone, one behind another."""
    window = tuple(itertools.islice(iterator, size))
    while len(window) == size:
        yield window
        kept = window[step:]
        for _ in range(step - size):
            next(iterator, None)
        window = kept + tuple(itertools.islice(iterator, size - len(kept)))


def marks(iterator):
    return (key for key, _ in itertools.groupby(iterator, mark))


def spared(one, other):
    try:
        yield from one
        return
    except Fault:
        pass
    yield from other


def wanted(iterator, n):
    told = 0
    for thing in iterator:
        told += 1
        yield thing
    if told < n:
        raise Fault("wanted")


# Of a row and another one: how a third one is made, and how its likeness.
WAYS = {
    "turned": (
        lambda one, other: Turned(one, with_weight),
        lambda one, other: map(with_weight, one)),
    "sieved": (
        lambda one, other: Sieved(one, is_even),
        lambda one, other: filter(is_even, one)),
    "cut at 0": (
        lambda one, other: Cut(one, 0), lambda one, other: itertools.islice(one, 0)),
    "cut at 2": (
        lambda one, other: Cut(one, 2), lambda one, other: itertools.islice(one, 2)),
    "cut at 4": (
        lambda one, other: Cut(one, 4), lambda one, other: itertools.islice(one, 4)),
    "left 0": (
        lambda one, other: Left(one, 0), lambda one, other: itertools.islice(one, 0, None)),
    "left 1": (
        lambda one, other: Left(one, 1), lambda one, other: itertools.islice(one, 1, None)),
    "left 3": (
        lambda one, other: Left(one, 3), lambda one, other: itertools.islice(one, 3, None)),
    "upto": (
        lambda one, other: Upto(one, is_light),
        lambda one, other: itertools.takewhile(is_light, one)),
    "chained to the left": (
        lambda one, other: Chained([one, other]), itertools.chain),
    "chained to the right": (
        lambda one, other: Chained([other, one]),
        lambda one, other: itertools.chain(other, one)),
    "beside to the left": (lambda one, other: Beside([one, other]), zip),
    "beside to the right": (
        lambda one, other: Beside([other, one]), lambda one, other: zip(other, one)),
    "beside alone": (lambda one, other: Beside([one]), lambda one, other: zip(one)),
    "ahead": (lambda one, other: Ahead(one), lambda one, other: one),
    "windows 2 by 1": (
        lambda one, other: Windows(one, 2, 1), lambda one, other: windows(one, 2, 1)),
    "windows 2 by 2": (
        lambda one, other: Windows(one, 2, 2), lambda one, other: windows(one, 2, 2)),
    "windows 1 by 3": (
        lambda one, other: Windows(one, 1, 3), lambda one, other: windows(one, 1, 3)),
    "groups": (lambda one, other: Groups(one, mark), lambda one, other: marks(one)),
    "spare to the left": (lambda one, other: Spare(one, other), spared),
    "spare to the right": (
        lambda one, other: Spare(other, one), lambda one, other: spared(other, one)),
    "wanted 2": (
        lambda one, other: Wanted(one, 2, "wanted"), lambda one, other: wanted(one, 2)),
    "wanted 5": (
        lambda one, other: Wanted(one, 5, "wanted"), lambda one, other: wanted(one, 5))}

# Their copies hang on the same source as they do.
READERS_TOO = {
    **WAYS,
    "a reader": (
        lambda one, other: split(one, 2)[1],
        lambda one, other: itertools.tee(one)[1]),
    "two readers beside one another": (
        lambda one, other: Beside(split(one, 2)),
        lambda one, other: zip(*itertools.tee(one))),
    "two readers chained": (
        lambda one, other: Chained(split(one, 2)),
        lambda one, other: itertools.chain(*itertools.tee(one)))}


def gifts(*numbers):
    return [("gift", number) for number in numbers]


LOWEST = [
    [END],
    [("fault", "torn")],
    [*gifts(1, 4), ("fault", "worn")],
    [*gifts(2, 3, 8, 10, 5, 12), END]]

OTHERS = [
    [*gifts(6, 7, 9), END],
    [*gifts(20, 21), ("fault", "gone")]]


def grown(names, lowest, other, log=None):
    """A net of these ways, the lowest one first, its likeness, its sources,
    and how often the likeness drew of each."""
    scripts = [lowest] + [other] * len(names)
    counts = [0] * len(scripts)
    rows = [
        scripted(script, [] if log is None else log, f"s{at}")
        for at, script in enumerate(scripts)]
    alike = [iterated(script, counts, at) for at, script in enumerate(scripts)]
    row, iterator = rows[0], alike[0]
    for at, name in enumerate(names):
        make, likened = READERS_TOO[name]
        row = make(row, rows[at + 1])
        iterator = for_good(likened(iterator, alike[at + 1]))
    return row, Likeness(iterator), rows, counts
