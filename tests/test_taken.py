"""Many answers at once."""

import itertools
import unittest

from giftstreams.ahead import Ahead
from giftstreams.errors import Closed, Held, NoCount, NoRow
from giftstreams.groups import Groups
from giftstreams.nets import taken
from giftstreams.sources import Counted, Listed
from giftstreams.spares import Spare, Wanted
from giftstreams.splits import split
from giftstreams.turned import Sieved
from tests.helpers import (
    Plain, Thing, asked, closed_row, gifts_forever, held_and_closed_row, held_row, no_rows,
    no_wholes, scripted, stands)

END = ("end",)
TORN = ("fault", "torn")


class TakenTest(unittest.TestCase):

    def test_each_n_and_length_and_last_answer(self):
        for many, n, last in itertools.product(range(5), range(7), (END, TORN)):
            with self.subTest(many=many, n=n, last=last):
                log = []
                row = scripted([*[("gift", k) for k in range(many)], last], log)
                told = taken(row, n)
                self.assertIs(type(told), tuple)
                self.assertIs(type(told[0]), list)
                self.assertEqual(told, (list(range(min(many, n))), last if n > many else None))
                self.assertEqual(log, [("s", k) for k in range(min(many + 1, n))])
                self.assertEqual(row.is_over(), n > many)

    def test_two_hundred(self):
        source = Counted(0, 1, 200)
        row = Ahead(source)
        self.assertEqual(taken(row, 200), (list(range(200)), None))
        self.assertEqual((source.drawn(), row.is_over()), (200, False))
        self.assertEqual(taken(row, 200), ([], END))
        self.assertEqual(taken(Counted(0, 1, 199), 200), (list(range(199)), END))

    def test_what_was_not_asked_stays_to_be_asked(self):
        row = Listed([1, 2, 3, 4])
        self.assertEqual(taken(row, 0), ([], None))
        self.assertEqual(taken(row, 1), ([1], None))
        self.assertEqual(taken(row, 2), ([2, 3], None))
        self.assertEqual(row.ask(), ("gift", 4))
        self.assertEqual(taken(row, 1), ([], END))

    def test_of_a_row_that_is_over(self):
        for last in (END, TORN):
            log = []
            row = scripted([last], log)
            row.ask()
            self.assertEqual(taken(row, 0), ([], None))
            self.assertEqual(taken(row, 5), ([], END))
            self.assertEqual(log, [("s", 0)])

    def test_gifts_that_are_tuples_and_rows_of_other_sorts(self):
        self.assertEqual(taken(scripted([("gift", (1, ())), TORN], []), 2), ([(1, ())], TORN))
        row = Spare(Wanted(Listed([1]), 2, "bare"), Sieved(Counted(0, 1, 9), lambda g: g > 6))
        self.assertEqual(taken(row, 9), ([1, 7, 8], END))
        left, right = split(Listed([4, 5]), 2)
        self.assertEqual(taken(left, 1), ([4], None))
        self.assertEqual(taken(right, 3), ([4, 5], END))
        groups = Groups(Listed([1, 1, 2]), abs)
        self.assertEqual(taken(groups, 1), ([1], None))
        self.assertEqual(taken(groups.group(), 9), ([1, 1], END))
        self.assertEqual(taken(groups, 9), ([2], END))

    def test_the_list_is_the_askers_own(self):
        row = Listed([1, 2])
        told, _ = taken(row, 1)
        told.append(None)
        self.assertEqual(taken(row, 2), ([2], END))
        self.assertIsNot(taken(row, 1)[0], taken(row, 1)[0])

    def test_no_row_then_held_then_closed_then_no_count(self):
        counts = [0, 3, 200, -1, 201, *no_wholes()]
        for thing in no_rows():
            for count in counts:
                with self.assertRaises(NoRow):
                    taken(thing, count)
        for make, refusal in ((held_row, Held), (held_and_closed_row, Held), (closed_row, Closed),
                              (Thing, NoRow)):
            for count in counts:
                with self.assertRaises(refusal):
                    taken(make(), count)

    def test_nothing_is_asked_where_it_is_refused(self):
        for count in [*no_wholes(), -1, 201, 10 ** 20, -10 ** 20]:
            with self.subTest(count=count):
                log = []
                row = gifts_forever(log)
                with self.assertRaises(NoCount):
                    taken(row, count)
                self.assertEqual((log, stands(row)), ([], (False, False, False, [])))
        log = []
        row = gifts_forever(log)
        Plain([row])
        with self.assertRaises(Held):
            taken(row, 3)
        self.assertEqual((log, row.drawn()), ([], 0))

    def test_it_is_free_as_it_was(self):
        row = Listed([1])
        taken(row, 9)
        self.assertEqual(stands(row), (True, False, False, []))
        self.assertEqual(asked(row, 1), [END])
