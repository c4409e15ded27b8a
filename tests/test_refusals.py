"""Of what the rows upon others refuse to be made, in which order, and that
nothing is changed by a refusal."""

import itertools
import unittest

from giftstreams.ahead import Ahead
from giftstreams.cuts import Cut, Left, Upto
from giftstreams.errors import Closed, Held, NoCount, NoRow
from giftstreams.groups import Groups
from giftstreams.joined import Beside, Chained
from giftstreams.rows import Row
from giftstreams.sources import Listed
from giftstreams.spares import Wanted
from giftstreams.splits import split
from giftstreams.turned import Sieved, Turned
from giftstreams.windows import Windows
from tests.helpers import (
    Thing, asked, closed_row, free_row, gifts_forever, held_and_closed_row, held_row, no_lists,
    no_rows, no_wholes, stands)


def same(thing):
    return thing


def always(thing):
    return True


UPON_ONE = [
    ("Turned", lambda row: Turned(row, same)),
    ("Sieved", lambda row: Sieved(row, always)),
    ("Cut", lambda row: Cut(row, 3)),
    ("Left", lambda row: Left(row, 0)),
    ("Upto", lambda row: Upto(row, always)),
    ("Ahead", Ahead),
    ("Windows", lambda row: Windows(row, 1, 1)),
    ("Groups", lambda row: Groups(row, same)),
    ("Wanted", lambda row: Wanted(row, 0, "torn"))]

# The least and the greatest count, and how the row is made with a count.
WITH_COUNT = [
    ("Cut", 0, 200, Cut),
    ("Left", 0, 200, Left),
    ("Windows, the size", 1, 20, lambda row, n: Windows(row, n, 3)),
    ("Windows, the step", 1, 20, lambda row, n: Windows(row, 3, n)),
    ("Windows, both", 1, 20, lambda row, n: Windows(row, n, n)),
    ("Wanted", 0, 200, lambda row, n: Wanted(row, n, "torn"))]

# The fewest rows, and what is made of a list of rows.
UPON_SEVERAL = [("Chained", 0, Chained), ("Beside", 1, Beside)]

KINDS = {
    "free": free_row, "held": held_row, "closed": closed_row, "both": held_and_closed_row,
    "none": Thing}


def first_due(names):
    """The refusal that is due of several handed in, or None."""
    if "none" in names:
        return NoRow
    if "held" in names or "both" in names:
        return Held
    return Closed if "closed" in names else None


class RefusalTest(unittest.TestCase):

    def refuses(self, refusal, make, rows, *more):
        """It is refused, and all rows stand as they stood."""
        before = [stands(row) for row in rows if isinstance(row, Row)]
        with self.assertRaises(refusal) as caught:
            make(*more)
        self.assertIs(type(caught.exception), refusal)
        self.assertEqual([stands(row) for row in rows if isinstance(row, Row)], before)


class UponOneTest(RefusalTest):

    def test_what_is_no_row(self):
        for name, make in UPON_ONE:
            for thing in [*no_rows(), [free_row()], (free_row(),)]:
                with self.subTest(name, thing=thing):
                    self.refuses(NoRow, make, [], thing)

    def test_held_ahead_of_closed(self):
        for name, make in UPON_ONE:
            for kind in ("held", "closed", "both"):
                with self.subTest(name, kind=kind):
                    row = KINDS[kind]()
                    self.refuses(first_due([kind]), make, [row], row)

    def test_made_of_a_free_one_that_is_held_by_it_then(self):
        for name, make in UPON_ONE:
            with self.subTest(name):
                lower = free_row()
                row = make(lower)
                self.assertEqual(stands(row), (False, False, False, [lower]))
                self.assertEqual(stands(lower), (False, False, True, []))
                self.refuses(Held, make, [lower, row], lower)

    def test_made_of_one_that_is_over(self):
        for name, make in UPON_ONE:
            with self.subTest(name):
                lower = Listed([])
                lower.ask()
                row = make(lower)
                self.assertEqual(stands(lower), (True, False, True, []))
                self.assertEqual(stands(row), (False, False, False, [lower]))
                self.assertEqual(asked(row, 2), [("end",), ("end",)])
                self.assertEqual(lower.drawn(), 1)


class CountTest(RefusalTest):

    def test_of_anything_but_a_count(self):
        for name, least, most, make in WITH_COUNT:
            for thing in [*no_wholes(), least - 1, most + 1, -10 ** 20, 10 ** 20]:
                with self.subTest(name, thing=thing):
                    log = []
                    row = gifts_forever(log)
                    self.refuses(NoCount, make, [row], row, thing)
                    self.assertEqual(log, [])
                    self.assertEqual(row.drawn(), 0)
                    self.assertEqual(make(row, most).beneath(), [row])

    def test_the_least_and_the_greatest_will_do(self):
        for name, least, most, make in WITH_COUNT:
            for count in (least, least + 1, most - 1, most):
                with self.subTest(name, count=count):
                    lower = free_row()
                    self.assertEqual(stands(make(lower, count)), (False, False, False, [lower]))

    def test_behind_what_is_wrong_with_the_row(self):
        for name, least, most, make in WITH_COUNT:
            for kind in ("none", "held", "closed", "both"):
                for count in (least - 1, most + 1, None, True, "3", [], least):
                    with self.subTest(name, kind=kind, count=count):
                        row = KINDS[kind]()
                        self.refuses(first_due([kind]), make, [row], row, count)


class SplitTest(RefusalTest):

    def test_what_is_no_row(self):
        for thing in [*no_rows(), [free_row()], (free_row(),)]:
            for many in (2, 0, None):
                with self.subTest(thing=thing, many=many):
                    self.refuses(NoRow, split, [], thing, many)

    def test_held_ahead_of_closed_ahead_of_the_count(self):
        for kind in ("held", "closed", "both"):
            for many in (1, 6, 0, 7, True, None, "2", []):
                with self.subTest(kind=kind, many=many):
                    row = KINDS[kind]()
                    self.refuses(first_due([kind]), split, [row], row, many)

    def test_of_anything_but_a_count(self):
        for thing in [*no_wholes(), 0, 7, -1, -6, 200, 10 ** 20]:
            with self.subTest(thing=thing):
                log = []
                row = gifts_forever(log)
                self.refuses(NoCount, split, [row], row, thing)
                self.assertEqual((log, row.drawn()), ([], 0))
                self.assertEqual(len(split(row, 6)), 6)

    def test_held_from_then_on(self):
        for many in range(1, 7):
            row = free_row()
            readers = split(row, many)
            self.assertEqual(len(readers), many)
            self.assertEqual(stands(row), (False, False, True, []))
            for reader in readers:
                self.assertEqual(stands(reader), (False, False, False, []))
            self.refuses(Held, split, [row, *readers], row, many)


class UponSeveralTest(RefusalTest):

    def test_what_is_no_list(self):
        for name, _, make in UPON_SEVERAL:
            for thing in no_lists():
                with self.subTest(name, thing=thing):
                    self.refuses(NoRow, make, [], thing)

    def test_what_is_no_row_at_any_place(self):
        for name, _, make in UPON_SEVERAL:
            for thing in no_rows():
                for at in range(3):
                    rows = [free_row(), free_row()]
                    rows.insert(at, thing)
                    with self.subTest(name, thing=thing, at=at):
                        self.refuses(NoRow, make, rows, rows)

    def test_the_first_refusal_that_is_due_of_several(self):
        for name, _, make in UPON_SEVERAL:
            for many in range(1, 4):
                for kinds in itertools.product(KINDS, repeat=many):
                    refusal = first_due(kinds)
                    if refusal is None:
                        continue
                    with self.subTest(name, kinds=kinds):
                        rows = [KINDS[kind]() for kind in kinds]
                        self.refuses(refusal, make, rows, rows)
                        free = [row for row, kind in zip(rows, kinds) if kind == "free"]
                        if free:
                            self.assertEqual(make(free).beneath(), free)

    def test_one_that_stands_twice(self):
        for name, _, make in UPON_SEVERAL:
            for place in itertools.permutations(range(4)):
                with self.subTest(name, place=place):
                    twice = free_row()
                    things = [twice, twice, free_row(), closed_row()]
                    rows = [things[k] for k in place]
                    self.refuses(Held, make, rows, rows)
                    self.refuses(NoRow, make, rows, [*rows, None])
                    self.assertEqual(make([twice]).beneath(), [twice])

    def test_fewer_or_more(self):
        for name, fewest, make in UPON_SEVERAL:
            for many in range(10):
                with self.subTest(name, many=many):
                    log = []
                    rows = [gifts_forever(log) for _ in range(many)]
                    if fewest <= many <= 6:
                        self.assertEqual(make(rows).beneath(), rows)
                        continue
                    self.refuses(NoCount, make, rows, rows)
                    self.assertEqual(log, [])
                    if many > 6:
                        self.assertEqual(make(rows[:6]).beneath(), rows[:6])

    def test_more_behind_what_is_wrong_with_the_rows(self):
        for name, _, make in UPON_SEVERAL:
            for kind in ("none", "held", "closed", "both"):
                for at in (0, 6, 7):
                    with self.subTest(name, kind=kind, at=at):
                        rows = [free_row() for _ in range(7)]
                        rows.insert(at, KINDS[kind]())
                        self.refuses(first_due([kind]), make, rows, rows)
            twice = free_row()
            rows = [twice, *[free_row() for _ in range(5)], twice]
            self.refuses(Held, make, rows, rows)

    def test_the_list_stays_as_it_was_and_is_not_kept(self):
        for name, _, make in UPON_SEVERAL:
            with self.subTest(name):
                rows = [Listed([1]), Listed([2])]
                before = list(rows)
                row = make(rows)
                self.assertEqual(rows, before)
                rows.reverse()
                rows.append(Listed([3]))
                self.assertEqual(row.beneath(), before)
                self.assertEqual(row.ask(), {"Chained": ("gift", 1), "Beside": ("gift", (1, 2))}[name])
                self.assertEqual(len(rows), 3)
