"""Scenes of spare and wanted rows, alone, upon and beneath the others."""

from giftstreams.ahead import Ahead
from giftstreams.cuts import Cut, Left, Upto
from giftstreams.groups import Groups
from giftstreams.joined import Beside, Chained
from giftstreams.spares import Spare, Wanted
from giftstreams.turned import Sieved, Turned
from giftstreams.windows import Windows
from tests.scenes import END, GONE, TORN, Scene, doubled, gift, gifts, is_even, is_small

BARE = ("fault", "bare")

SPARE_SCENES = [
    Scene(
        "spare, the first one ends",
        lambda rows: Spare(rows[0], rows[1]),
        [[*gifts(1), gift(2, (3,)), END], gifts(7, 8)],
        [(gift(1), (1, 0)), (gift(2, (3,)), (2, 0)), (END, (3, 0))]),
    Scene(
        "spare, both of none",
        lambda rows: Spare(rows[0], rows[1]),
        [[END], [END]],
        [(END, (1, 0))]),
    Scene(
        "spare, a fault behind gifts",
        lambda rows: Spare(rows[0], rows[1]),
        [[*gifts(1, 2), TORN], [*gifts(7, 8), END]],
        [(gift(1), (1, 0)), (gift(2), (2, 0)), (gift(7), (3, 1)), (gift(8), (3, 2)),
         (END, (3, 3))]),
    Scene(
        "spare, a fault as the very first answer",
        lambda rows: Spare(rows[0], rows[1]),
        [[TORN], [*gifts(7), END]],
        [(gift(7), (1, 1)), (END, (1, 2))]),
    Scene(
        "spare, a fault and the end at once",
        lambda rows: Spare(rows[0], rows[1]),
        [[*gifts(1), TORN], [END]],
        [(gift(1), (1, 0)), (END, (2, 1))]),
    Scene(
        "spare, a fault of both",
        lambda rows: Spare(rows[0], rows[1]),
        [[*gifts(1), TORN], [*gifts(7), GONE]],
        [(gift(1), (1, 0)), (gift(7), (2, 1)), (GONE, (2, 2))]),
    Scene(
        "spare, a fault of both at once",
        lambda rows: Spare(rows[0], rows[1]),
        [[TORN], [GONE]],
        [(GONE, (1, 1))]),
    Scene(
        "spare, both with the same fault",
        lambda rows: Spare(rows[0], rows[1]),
        [[TORN], [*gifts(7), TORN]],
        [(gift(7), (1, 1)), (TORN, (1, 2))])]

WANTED_SCENES = [
    Scene(
        "wanted, none at all",
        lambda rows: Wanted(rows[0], 0, "bare"),
        [[END]],
        [(END, (1,))]),
    Scene(
        "wanted, fewer",
        lambda rows: Wanted(rows[0], 3, "bare"),
        [[*gifts(1), gift(2, 3), END]],
        [(gift(1), (1,)), (gift(2, 3), (2,)), (BARE, (3,))],
        of_ended=BARE),
    Scene(
        "wanted, just as many",
        lambda rows: Wanted(rows[0], 2, "bare"),
        [[*gifts(1, 2), END]],
        [(gift(1), (1,)), (gift(2), (2,)), (END, (3,))],
        of_ended=BARE),
    Scene(
        "wanted, more",
        lambda rows: Wanted(rows[0], 1, "bare"),
        [[*gifts(1, 2, 3), END]],
        [(gift(1), (1,)), (gift(2), (2,)), (gift(3), (3,)), (END, (4,))],
        of_ended=BARE),
    Scene(
        "wanted, two hundred of none",
        lambda rows: Wanted(rows[0], 200, "bare"),
        [[END]],
        [(BARE, (1,))],
        of_ended=BARE),
    Scene(
        "wanted, a fault beneath ahead of them",
        lambda rows: Wanted(rows[0], 3, "bare"),
        [[*gifts(1), TORN]],
        [(gift(1), (1,)), (TORN, (2,))],
        of_ended=BARE),
    Scene(
        "wanted, a fault beneath behind them",
        lambda rows: Wanted(rows[0], 1, "bare"),
        [[*gifts(1, 2), TORN]],
        [(gift(1), (1,)), (gift(2), (2,)), (TORN, (3,))],
        of_ended=BARE),
    Scene(
        "wanted, by no signs at all",
        lambda rows: Wanted(rows[0], 1, ""),
        [[END]],
        [(("fault", ""), (1,))],
        of_ended=("fault", ""))]

UPON_ONE_ANOTHER = [
    Scene(
        "spare of spare",
        lambda rows: Spare(Spare(rows[0], rows[1]), rows[2]),
        [[*gifts(1), TORN], [*gifts(2), GONE], [*gifts(3), END]],
        [(gift(1), (1, 0, 0)), (gift(2), (2, 1, 0)), (gift(3), (2, 2, 1)), (END, (2, 2, 2))]),
    Scene(
        "spare behind spare",
        lambda rows: Spare(rows[0], Spare(rows[1], rows[2])),
        [[*gifts(1), TORN], [*gifts(2), GONE], [*gifts(3), TORN]],
        [(gift(1), (1, 0, 0)), (gift(2), (2, 1, 0)), (gift(3), (2, 2, 1)), (TORN, (2, 2, 2))]),
    Scene(
        "three faults in one asking",
        lambda rows: Spare(Spare(rows[0], rows[1]), rows[2]),
        [[TORN], [GONE], [*gifts(3), END]],
        [(gift(3), (1, 1, 1)), (END, (1, 1, 2))]),
    Scene(
        "spare of wanted",
        lambda rows: Spare(Wanted(rows[0], 3, "bare"), rows[1]),
        [[*gifts(1, 2), END], [*gifts(7), END]],
        [(gift(1), (1, 0)), (gift(2), (2, 0)), (gift(7), (3, 1)), (END, (3, 2))]),
    Scene(
        "wanted of spare",
        lambda rows: Wanted(Spare(rows[0], rows[1]), 3, "bare"),
        [[*gifts(1), TORN], [*gifts(7), END]],
        [(gift(1), (1, 0)), (gift(7), (2, 1)), (BARE, (2, 2))],
        of_ended=BARE),
    Scene(
        "wanted of wanted: the inner one tells",
        lambda rows: Wanted(Wanted(rows[0], 2, "inner"), 5, "outer"),
        [[*gifts(1), END]],
        [(gift(1), (1,)), (("fault", "inner"), (2,))],
        of_ended=("fault", "inner")),
    Scene(
        "wanted of wanted: the outer one tells",
        lambda rows: Wanted(Wanted(rows[0], 1, "inner"), 2, "outer"),
        [[*gifts(1), END]],
        [(gift(1), (1,)), (("fault", "outer"), (2,))],
        of_ended=("fault", "inner"))]

AMONG_OTHERS = [
    Scene(
        "turned of spare of sieved and cut",
        lambda rows: Turned(Spare(Sieved(rows[0], is_even), Cut(rows[1], 1)), doubled),
        [[*gifts(1, 2, 3), TORN], gifts(7, 8)],
        [(gift(2, 2), (2, 0)), (gift(7, 7), (4, 1)), (END, (4, 1))]),
    Scene(
        "cut of spare",
        lambda rows: Cut(Spare(rows[0], rows[1]), 2),
        [[*gifts(1), TORN], gifts(7, 8)],
        [(gift(1), (1, 0)), (gift(7), (2, 1)), (END, (2, 1))]),
    Scene(
        "left of spare, the fault among those left out",
        lambda rows: Left(Spare(rows[0], rows[1]), 2),
        [[*gifts(1), TORN], [*gifts(7, 8), END]],
        [(gift(8), (2, 2)), (END, (2, 3))]),
    Scene(
        "upto of wanted",
        lambda rows: Upto(Wanted(rows[0], 2, "bare"), is_small),
        [[*gifts(1, 9), END]],
        [(gift(1), (1,)), (END, (2,))],
        of_ended=BARE),
    Scene(
        "wanted of upto",
        lambda rows: Wanted(Upto(rows[0], is_small), 2, "bare"),
        [[*gifts(1, 9, 1), END]],
        [(gift(1), (1,)), (BARE, (2,))],
        of_ended=BARE),
    Scene(
        "chained of wanted ones",
        lambda rows: Chained([Wanted(rows[0], 1, "bare"), Wanted(rows[1], 2, "thin"), rows[2]]),
        [[*gifts(1), END], [*gifts(2), END], gifts(3)],
        [(gift(1), (1, 0, 0)), (gift(2), (2, 1, 0)), (("fault", "thin"), (2, 2, 0))],
        of_ended=BARE),
    Scene(
        "chained of spares",
        lambda rows: Chained([Spare(rows[0], rows[1]), Spare(rows[2], rows[3])]),
        [[TORN], [*gifts(1), END], [*gifts(2), END], gifts(3)],
        [(gift(1), (1, 1, 0, 0)), (gift(2), (1, 2, 1, 0)), (END, (1, 2, 2, 0))]),
    Scene(
        "beside of spare and wanted",
        lambda rows: Beside([Spare(rows[0], rows[1]), Wanted(rows[2], 2, "bare"), rows[3]]),
        [[TORN], gifts(1, 2, 3), [*gifts(5), END], gifts(7, 8)],
        [(gift(1, 5, 7), (1, 1, 1, 1)), (BARE, (1, 2, 2, 1))],
        of_ended=END),
    Scene(
        "spare of windows, what was drawn for its last one is lost",
        lambda rows: Spare(Windows(rows[0], 2, 2), rows[1]),
        [[*gifts(1, 2, 3), TORN], [*gifts(7), END]],
        [(gift(1, 2), (2, 0)), (gift(7), (4, 1)), (END, (4, 2))]),
    Scene(
        "windows of spare over both",
        lambda rows: Windows(Spare(rows[0], rows[1]), 2, 1),
        [[*gifts(1, 2), TORN], [*gifts(7, 8), END]],
        [(gift(1, 2), (2, 0)), (gift(2, 7), (3, 1)), (gift(7, 8), (3, 2)), (END, (3, 3))]),
    Scene(
        "groups of spare, one group over both",
        lambda rows: Groups(Spare(rows[0], rows[1]), lambda g: g // 5),
        [[*gifts(1, 2), TORN], [*gifts(3, 8), END]],
        [(gift(0), (1, 0)), (gift(1), (3, 2)), (END, (3, 3))]),
    Scene(
        "spare of groups",
        lambda rows: Spare(Groups(rows[0], lambda g: g // 5), rows[1]),
        [[*gifts(1, 2, 8, 9), TORN], [*gifts(7), GONE]],
        [(gift(0), (1, 0)), (gift(1), (3, 0)), (gift(7), (5, 1)), (GONE, (5, 2))]),
    Scene(
        "wanted of groups",
        lambda rows: Wanted(Groups(rows[0], lambda g: g // 5), 2, "bare"),
        [[*gifts(1, 2), END]],
        [(gift(0), (1,)), (BARE, (3,))],
        of_ended=BARE),
    Scene(
        "ahead of spare of ahead and wanted",
        lambda rows: Ahead(Spare(Ahead(rows[0]), Wanted(rows[1], 2, "bare"))),
        [[*gifts(1), TORN], [*gifts(7), END]],
        [(gift(1), (1, 0)), (gift(7), (2, 1)), (BARE, (2, 2))])]

STAGE_SIX = SPARE_SCENES + WANTED_SCENES + UPON_ONE_ANOTHER + AMONG_OTHERS
