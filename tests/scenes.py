"""Rows upon others, each with what it has to answer and draw, asking by
asking, till behind its end."""

from giftstreams.ahead import Ahead
from giftstreams.cuts import Cut, Left, Upto
from giftstreams.groups import Groups
from giftstreams.joined import Beside, Chained
from giftstreams.turned import Sieved, Turned
from giftstreams.windows import Windows
from tests.helpers import scripted

END = ("end",)
TORN = ("fault", "torn")
GONE = ("fault", "gone")


def gift(*parts):
    """The answer with a number, or, of several parts or none, with a tuple."""
    if len(parts) == 1:
        return ("gift", parts[0])
    return ("gift", parts)


def gifts(*numbers):
    return [("gift", number) for number in numbers]


def doubled(thing):
    return (thing, thing)


def is_even(thing):
    return isinstance(thing, int) and thing % 2 == 0


def is_small(thing):
    return isinstance(thing, tuple) or thing < 5


def ends(script):
    return script[-1][0] != "gift"


class Scene:
    """Scripts of the sources' answers; how the row is made upon the sources;
    the answer of each asking, with how often each source was drawn behind it;
    the first answer where the sources are over already."""

    def __init__(self, name, make, scripts, steps, of_ended=END):
        self.name = name
        self.of_ended = of_ended
        self.make = make
        self.scripts = [script if ends(script) else [*script, END] for script in scripts]
        self.answers = [answer for answer, _ in steps]
        self.draws = [(0,) * len(scripts)] + [counts for _, counts in steps]

    def sources(self, log=None):
        log = [] if log is None else log
        return [scripted(script, log, f"s{number}") for number, script in enumerate(self.scripts)]

    def fresh(self, log=None):
        """The row, and its sources in the order of the scripts."""
        lowest = self.sources(log)
        return self.make(lowest), lowest

    def fresh_asked(self, many, log=None):
        row, lowest = self.fresh(log)
        for _ in range(many):
            row.ask()
        return row, lowest


def leaves(row):
    """The sources at the bottom, from the left to the right."""
    if not row.beneath():
        return [row] if hasattr(row, "drawn") else []
    return [leaf for lower in row.beneath() for leaf in leaves(lower)]


def shape(row):
    """The sorts of a row and of all beneath it."""
    return (type(row), [shape(lower) for lower in row.beneath()])


TURNED_SCENES = [
    Scene(
        "turned",
        lambda rows: Turned(rows[0], doubled),
        [[*gifts(1, -2), gift(3, (4, 5)), END]],
        [(gift(1, 1), (1,)), (gift(-2, -2), (2,)), (gift((3, (4, 5)), (3, (4, 5))), (3,)),
         (END, (4,))]),
    Scene("turned, of none", lambda rows: Turned(rows[0], doubled), [[END]], [(END, (1,))]),
    Scene(
        "turned, a fault",
        lambda rows: Turned(rows[0], doubled),
        [[*gifts(7), TORN]],
        [(gift(7, 7), (1,)), (TORN, (2,))]),
    Scene(
        "sieved",
        lambda rows: Sieved(rows[0], is_even),
        [[*gifts(1, 2, 4, 3, 3, 6, 5), END]],
        [(gift(2), (2,)), (gift(4), (3,)), (gift(6), (6,)), (END, (8,))]),
    Scene(
        "sieved, all let through",
        lambda rows: Sieved(rows[0], is_even),
        [[*gifts(0, -2), END]],
        [(gift(0), (1,)), (gift(-2), (2,)), (END, (3,))]),
    Scene(
        "sieved, none let through",
        lambda rows: Sieved(rows[0], is_even),
        [[*gifts(1, 3), gift(2, 4), END]],
        [(END, (4,))]),
    Scene("sieved, of none", lambda rows: Sieved(rows[0], is_even), [[END]], [(END, (1,))]),
    Scene(
        "sieved, tuples let through",
        lambda rows: Sieved(rows[0], is_small),
        [[*gifts(9), gift(9, 9), gift(), *gifts(5, 4), END]],
        [(gift(9, 9), (2,)), (gift(), (3,)), (gift(4), (5,)), (END, (6,))]),
    Scene(
        "sieved, a fault behind gifts that it keeps back",
        lambda rows: Sieved(rows[0], is_even),
        [[*gifts(2, 3, 5), TORN]],
        [(gift(2), (1,)), (TORN, (4,))])]

CUTS_SCENES = [
    Scene("cut at 0", lambda rows: Cut(rows[0], 0), [gifts(1)], [(END, (0,))]),
    Scene("cut at 0, of none", lambda rows: Cut(rows[0], 0), [[END]], [(END, (0,))]),
    Scene(
        "cut at one less",
        lambda rows: Cut(rows[0], 2),
        [[*gifts(4, 5, 6), END]],
        [(gift(4), (1,)), (gift(5), (2,)), (END, (2,))]),
    Scene(
        "cut at as many",
        lambda rows: Cut(rows[0], 2),
        [[*gifts(4), gift(5, 6), END]],
        [(gift(4), (1,)), (gift(5, 6), (2,)), (END, (2,))]),
    Scene(
        "cut at one more",
        lambda rows: Cut(rows[0], 3),
        [[*gifts(4, 5), END]],
        [(gift(4), (1,)), (gift(5), (2,)), (END, (3,))]),
    Scene(
        "cut, a fault within",
        lambda rows: Cut(rows[0], 2),
        [[*gifts(4), TORN]],
        [(gift(4), (1,)), (TORN, (2,))]),
    Scene(
        "cut, a fault behind",
        lambda rows: Cut(rows[0], 1),
        [[*gifts(4), TORN]],
        [(gift(4), (1,)), (END, (1,))]),
    Scene(
        "none left out",
        lambda rows: Left(rows[0], 0),
        [[*gifts(4, 5), END]],
        [(gift(4), (1,)), (gift(5), (2,)), (END, (3,))]),
    Scene(
        "left, one less",
        lambda rows: Left(rows[0], 2),
        [[*gifts(4, 5), gift(6, 7), END]],
        [(gift(6, 7), (3,)), (END, (4,))]),
    Scene(
        "left, several behind",
        lambda rows: Left(rows[0], 1),
        [[*gifts(4, 5, 6), TORN]],
        [(gift(5), (2,)), (gift(6), (3,)), (TORN, (4,))]),
    Scene("left, as many", lambda rows: Left(rows[0], 2), [[*gifts(4, 5), END]], [(END, (3,))]),
    Scene("left, one more", lambda rows: Left(rows[0], 3), [[*gifts(4, 5), END]], [(END, (3,))]),
    Scene("left, of none", lambda rows: Left(rows[0], 200), [[END]], [(END, (1,))]),
    Scene(
        "left, a fault within",
        lambda rows: Left(rows[0], 3),
        [[*gifts(4), TORN]],
        [(TORN, (2,))]),
    Scene(
        "left, a fault straight behind",
        lambda rows: Left(rows[0], 1),
        [[*gifts(4), GONE]],
        [(GONE, (2,))]),
    Scene(
        "upto",
        lambda rows: Upto(rows[0], is_small),
        [[*gifts(1), gift(9, 9), *gifts(5, 1), END]],
        [(gift(1), (1,)), (gift(9, 9), (2,)), (END, (3,))]),
    Scene("upto, none", lambda rows: Upto(rows[0], is_small), [gifts(5, 1)], [(END, (1,))]),
    Scene(
        "upto, all",
        lambda rows: Upto(rows[0], is_small),
        [[*gifts(1, 2), END]],
        [(gift(1), (1,)), (gift(2), (2,)), (END, (3,))]),
    Scene(
        "upto, a fault",
        lambda rows: Upto(rows[0], is_small),
        [[*gifts(1), TORN]],
        [(gift(1), (1,)), (TORN, (2,))])]

JOINED_SCENES = [
    Scene("chained, of none", lambda rows: Chained([]), [], [(END, ())]),
    Scene(
        "chained, of one",
        lambda rows: Chained(rows),
        [[*gifts(1), END]],
        [(gift(1), (1,)), (END, (2,))]),
    Scene("chained, an empty one", lambda rows: Chained(rows), [[END]], [(END, (1,))]),
    Scene(
        "chained, over several empty ones",
        lambda rows: Chained(rows),
        [[END], [*gifts(1, 2), END], [END], [END], [gift(3, 4), END], [END]],
        [(gift(1), (1, 1, 0, 0, 0, 0)), (gift(2), (1, 2, 0, 0, 0, 0)),
         (gift(3, 4), (1, 3, 1, 1, 1, 0)), (END, (1, 3, 1, 1, 2, 1))]),
    Scene(
        "chained, all empty",
        lambda rows: Chained(rows),
        [[END], [END], [END]],
        [(END, (1, 1, 1))]),
    Scene(
        "chained, a fault of the middle one",
        lambda rows: Chained(rows),
        [[*gifts(1), END], [*gifts(2), TORN], gifts(3)],
        [(gift(1), (1, 0, 0)), (gift(2), (2, 1, 0)), (TORN, (2, 2, 0))]),
    Scene(
        "chained, a fault straight behind an end",
        lambda rows: Chained(rows),
        [[END], [GONE], [TORN]],
        [(GONE, (1, 1, 0))]),
    Scene(
        "beside, of one",
        lambda rows: Beside(rows),
        [[*gifts(1), gift(2, 3), END]],
        [(("gift", (1,)), (1,)), (("gift", ((2, 3),)), (2,)), (END, (3,))]),
    Scene(
        "beside, the middle one ends first",
        lambda rows: Beside(rows),
        [gifts(1, 2, 3, 4), [*gifts(5, 6), END], gifts(7, 8, 9)],
        [(gift(1, 5, 7), (1, 1, 1)), (gift(2, 6, 8), (2, 2, 2)), (END, (3, 3, 2))]),
    Scene(
        "beside, the first one ends first",
        lambda rows: Beside(rows),
        [[*gifts(1), END], gifts(5, 6)],
        [(gift(1, 5), (1, 1)), (END, (2, 1))]),
    Scene(
        "beside, six, the last one ends first",
        lambda rows: Beside(rows),
        [gifts(1, 7), gifts(2, 7), gifts(3, 7), gifts(4, 7), gifts(5, 7), [*gifts(6), END]],
        [(gift(1, 2, 3, 4, 5, 6), (1,) * 6), (END, (2,) * 6)]),
    Scene(
        "beside, a fault behind a gift, ahead of an end",
        lambda rows: Beside(rows),
        [gifts(1, 2), [*gifts(3), TORN], [*gifts(4), END]],
        [(gift(1, 3, 4), (1, 1, 1)), (TORN, (2, 2, 1))]),
    Scene(
        "beside, an end ahead of a fault",
        lambda rows: Beside(rows),
        [gifts(1), [END], [TORN]],
        [(END, (1, 1, 0))])]

# Several deep, of the seven sorts.
DEEP_SCENES = [
    Scene(
        "upto of sieved of chained of left and turned",
        lambda rows: Upto(
            Sieved(Chained([Left(rows[0], 2), Turned(rows[1], lambda g: g + 1)]), is_even),
            is_small),
        [[*gifts(0, 0, 2, 3), END], [*gifts(3, 4, 5, 7), END]],
        [(gift(2), (3, 0)), (gift(4), (5, 1)), (END, (5, 3))]),
    Scene(
        "beside of cut and of chained of a cut and a sieved one",
        lambda rows: Beside([Cut(rows[0], 3), Chained([Cut(rows[1], 1), Sieved(rows[2], is_even)])]),
        [gifts(1, 2, 3, 4), gifts(5, 5), [*gifts(1, 6, 7, 8), TORN]],
        [(gift(1, 5), (1, 1, 0)), (gift(2, 6), (2, 1, 2)), (gift(3, 8), (3, 1, 4)),
         (END, (3, 1, 4))]),
    Scene(
        "a fault through all of them",
        lambda rows: Turned(Sieved(Cut(Left(Upto(Chained([Beside(rows)]), lambda g: True), 1), 9),
                                   lambda g: True), len),
        [gifts(1, 2, 3), [*gifts(4, 5), GONE], gifts(6, 7)],
        [(gift(3), (2, 2, 2)), (GONE, (3, 3, 2))]),
    Scene(
        "left of beside of a cut that ends while some are left out",
        lambda rows: Left(Beside([rows[0], Cut(rows[1], 2)]), 3),
        [gifts(1, 2, 3, 4), gifts(5, 6, 7)],
        [(END, (3, 2))]),
    Scene(
        "chained of two cuts of chained ones, none of them over where it is cut",
        lambda rows: Chained([Cut(Chained(rows[:2]), 2), Cut(Chained(rows[2:]), 1)]),
        [[*gifts(1), END], gifts(2, 3), [END], gifts(4)],
        [(gift(1), (1, 0, 0, 0)), (gift(2), (2, 1, 0, 0)), (gift(4), (2, 1, 1, 1)),
         (END, (2, 1, 1, 1))])]

AHEAD_SCENES = [
    Scene(
        "ahead",
        lambda rows: Ahead(rows[0]),
        [[*gifts(1), gift(2, (3,)), END]],
        [(gift(1), (1,)), (gift(2, (3,)), (2,)), (END, (3,))]),
    Scene(
        "ahead, a fault",
        lambda rows: Ahead(rows[0]),
        [[*gifts(1), TORN]],
        [(gift(1), (1,)), (TORN, (2,))]),
    Scene("ahead, of none", lambda rows: Ahead(rows[0]), [[END]], [(END, (1,))])]

WINDOWS_SCENES = [
    Scene(
        "windows, a step less than the size",
        lambda rows: Windows(rows[0], 3, 2),
        [[*gifts(1, 2, 3, 4, 5, 6), END]],
        [(gift(1, 2, 3), (3,)), (gift(3, 4, 5), (5,)), (END, (7,))]),
    Scene(
        "windows, a step of 1",
        lambda rows: Windows(rows[0], 3, 1),
        [[*gifts(1, 2, 3), gift(4, 4), TORN]],
        [(gift(1, 2, 3), (3,)), (gift(2, 3, (4, 4)), (4,)), (TORN, (5,))]),
    Scene(
        "windows, a step equal to the size",
        lambda rows: Windows(rows[0], 2, 2),
        [[*gifts(1, 2, 3, 4, 5), END]],
        [(gift(1, 2), (2,)), (gift(3, 4), (4,)), (END, (6,))]),
    Scene(
        "windows, a step greater than the size",
        lambda rows: Windows(rows[0], 2, 4),
        [[*gifts(1, 2, 3, 4, 5, 6, 7, 8, 9), END]],
        [(gift(1, 2), (2,)), (gift(5, 6), (6,)), (END, (10,))]),
    Scene(
        "windows, the end between two",
        lambda rows: Windows(rows[0], 1, 4),
        [[*gifts(1, 2, 3), END]],
        [(("gift", (1,)), (1,)), (END, (4,))]),
    Scene(
        "windows, a fault between two",
        lambda rows: Windows(rows[0], 2, 5),
        [[*gifts(1, 2, 3), GONE]],
        [(gift(1, 2), (2,)), (GONE, (4,))]),
    Scene(
        "windows, of one by one",
        lambda rows: Windows(rows[0], 1, 1),
        [[*gifts(1), gift(2, 3), END]],
        [(("gift", (1,)), (1,)), (("gift", ((2, 3),)), (2,)), (END, (3,))]),
    Scene(
        "windows, the first one lacks some",
        lambda rows: Windows(rows[0], 4, 1),
        [[*gifts(1, 2, 3), END]],
        [(END, (4,))]),
    Scene("windows, of none", lambda rows: Windows(rows[0], 1, 1), [[END]], [(END, (1,))])]

GROUPS_SCENES = [
    Scene(
        "groups",
        lambda rows: Groups(rows[0], lambda g: g),
        [[*gifts(1, 1, -2, -2, -2, 1), END]],
        [(gift(1), (1,)), (gift(-2), (3,)), (gift(1), (6,)), (END, (7,))]),
    Scene(
        "groups, by a mark of tuples and numbers",
        lambda rows: Groups(rows[0], lambda g: len(g) if isinstance(g, tuple) else -1),
        [[*gifts(1, 2), gift(), gift(4, 5), gift(6, 6), *gifts(7), TORN]],
        [(gift(-1), (1,)), (gift(0), (3,)), (gift(2), (4,)), (gift(-1), (6,)), (TORN, (7,))]),
    Scene(
        "groups, each of one gift",
        lambda rows: Groups(rows[0], lambda g: -g),
        [[*gifts(1, 2, 3), GONE]],
        [(gift(-1), (1,)), (gift(-2), (2,)), (gift(-3), (3,)), (GONE, (4,))]),
    Scene(
        "groups, all of them one",
        lambda rows: Groups(rows[0], lambda g: 0),
        [[*gifts(1, 2, 3), END]],
        [(gift(0), (1,)), (END, (4,))]),
    Scene("groups, of none", lambda rows: Groups(rows[0], lambda g: 0), [[END]], [(END, (1,))])]

WIDE_SCENES = [
    Scene(
        "windows of groups of chained of windows",
        lambda rows: Windows(
            Groups(Chained([Windows(rows[0], 2, 2), rows[1]]), lambda g: g[0] // 4), 2, 1),
        [[*gifts(1, 9, 3, 9, 5, 9, 7, 9, 8), END], [gift(5, 0), gift(9, 0), END]],
        [(gift(0, 1), (6, 0)), (gift(1, 2), (10, 2)), (END, (10, 3))]),
    Scene(
        "ahead of beside of windows that lie apart and of groups",
        lambda rows: Ahead(Beside([Windows(rows[0], 1, 3), Groups(rows[1], lambda g: g)])),
        [gifts(1, 2, 3, 4, 5, 6, 7), [*gifts(8, 8, 9), TORN]],
        [(gift((1,), 8), (1, 1)), (gift((4,), 9), (4, 3)), (TORN, (7, 4))]),
    Scene(
        "groups of groups of sieved of ahead",
        lambda rows: Groups(Groups(Sieved(Ahead(rows[0]), is_even), lambda g: g // 10),
                            lambda g: g // 3),
        [[*gifts(2, 12, 13, 14, 22, 30, 1, 90), END]],
        [(gift(0), (1,)), (gift(1), (6,)), (gift(3), (8,)), (END, (9,))])]

STAGE_THREE = AHEAD_SCENES + WINDOWS_SCENES + GROUPS_SCENES + WIDE_SCENES

STAGE_TWO = TURNED_SCENES + CUTS_SCENES + JOINED_SCENES + DEEP_SCENES
