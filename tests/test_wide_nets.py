"""Nets in which several holders hang on one source, through readers."""

import itertools
import unittest

from giftstreams.ahead import Ahead
from giftstreams.cuts import Cut, Left, Upto
from giftstreams.errors import Held
from giftstreams.groups import Groups
from giftstreams.joined import Beside, Chained
from giftstreams.sources import Counted, Listed
from giftstreams.splits import split
from giftstreams.turned import Sieved, Turned
from giftstreams.windows import Windows
from tests.helpers import Several, asked, gifts_forever, scripted
from tests.likeness import LOWEST, OTHERS, WAYS, Likeness, for_good, iterated

END = ("end",)
TORN = ("fault", "torn")
ORDERS = [(0, 1) * 8, (0, 0, 1) * 5, (1,) * 3 + (0,) * 8 + (1,) * 4]


def gifts(*things):
    return [("gift", thing) for thing in things]


def two_tops(names, lowest, other):
    """A row upon each of two readers of one source, their likenesses, all
    sources, and how often the likenesses drew of each."""
    scripts = [lowest, other, other]
    counts = [0] * 3
    rows = [scripted(script, []) for script in scripts]
    alike = [iterated(script, counts, at) for at, script in enumerate(scripts)]
    readers, copies = split(rows[0], 2), itertools.tee(alike[0])
    tops, likenesses = [], []
    for at, name in enumerate(names):
        make, likened = WAYS[name]
        tops.append(make(readers[at], rows[at + 1]))
        likenesses.append(Likeness(for_good(likened(copies[at], alike[at + 1]))))
    return tops, likenesses, rows, counts, readers


class TwoTopsTest(unittest.TestCase):

    def test_answers_and_draws_in_several_orders(self):
        for names in itertools.product(WAYS, repeat=2):
            for order, lowest in itertools.product(ORDERS, LOWEST[2:]):
                with self.subTest(names, order=order, lowest=lowest):
                    tops, alike, rows, counts, _ = two_tops(names, lowest, OTHERS[0])
                    for at in order:
                        self.assertEqual(tops[at].ask(), alike[at].ask())
                        self.assertEqual([row.drawn() for row in rows], counts)
                        self.assertIs(tops[at].is_over(), alike[at].over)

    def test_what_is_kept_and_who_closes(self):
        for names in itertools.product(WAYS, repeat=2):
            for order in ORDERS:
                with self.subTest(names, order=order):
                    tops, _, rows, _, readers = two_tops(names, LOWEST[-1], OTHERS[0])
                    for at in order[:7]:
                        tops[at].ask()
                    drawn = [answer[1] for answer in LOWEST[-1][:rows[0].drawn()] if answer != END]
                    places = [reader.place() for reader in readers]
                    self.assertEqual(readers[0].kept(), drawn[min(places):])
                    tops[order[0]].close()
                    self.assertIs(rows[0].is_closed(), False)
                    self.assertEqual(readers[0].kept(), drawn[places[1 - order[0]]:])
                    tops[1 - order[0]].close()
                    self.assertIs(rows[0].is_closed(), True)
                    self.assertEqual(readers[0].kept(), [])

    def test_copies_of_both_go_on_as_the_likenesses(self):
        for names in itertools.product(WAYS, repeat=2):
            with self.subTest(names):
                tops, alike, rows, _, _ = two_tops(names, LOWEST[-1], OTHERS[1])
                for at in (0, 1, 1):
                    tops[at].ask()
                    alike[at].ask()
                copies = [top.copied() for top in tops]
                told = [asked(top, 8) for top in copies]
                drawn = rows[0].drawn()
                self.assertEqual(told, [[one.ask() for _ in range(8)] for one in alike])
                self.assertEqual([asked(top, 8) for top in tops], told)
                self.assertEqual(rows[0].drawn(), drawn)


class DiamondTest(unittest.TestCase):

    def diamond(self, script, log):
        source = scripted(script, log)
        left, right = split(Turned(source, lambda g: g * 10), 2)
        row = Beside([Sieved(left, lambda g: g % 20 == 0), Windows(right, 2, 1)])
        return source, row, left, right

    def test_answers_draws_kept_and_places(self):
        source, row, left, right = self.diamond([*gifts(1, 2, 3, 4, 5, 6, 8), END], [])
        steps = [
            (("gift", (20, (10, 20))), 2, [], (2, 2)),
            (("gift", (40, (20, 30))), 4, [40], (4, 3)),
            (("gift", (60, (30, 40))), 6, [50, 60], (6, 4)),
            (("gift", (80, (40, 50))), 7, [60, 80], (7, 5)),
            (END, 8, [60, 80], (7, 5)),
            (END, 8, [60, 80], (7, 5))]
        for answer, drawn, kept, places in steps:
            self.assertEqual(row.ask(), answer)
            self.assertEqual(source.drawn(), drawn)
            self.assertEqual((left.kept(), right.kept()), (kept, kept))
            self.assertEqual((left.place(), right.place()), places)

    def test_the_fault_is_told_to_the_one_that_met_it(self):
        source, row, left, right = self.diamond([*gifts(1, 2, 3), TORN], [])
        third = right.whole_copy()
        self.assertEqual(asked(row, 3), [("gift", (20, (10, 20))), TORN, END])
        self.assertEqual((left.is_over(), right.is_over(), third.is_over()), (True, False, False))
        self.assertEqual(asked(third, 5), [*gifts(10, 20, 30), END, END])
        self.assertEqual(source.drawn(), 4)

    def test_the_fault_met_by_the_right_one(self):
        left, right = split(scripted([*gifts(1, 2), TORN], []), 2)
        upper = Beside([Cut(left, 2), Windows(right, 3, 1)])
        self.assertEqual(asked(upper, 2), [TORN, END])
        self.assertEqual((left.place(), left.is_over(), right.is_over()), (1, False, True))
        self.assertEqual((left.kept(), right.place()), ([2], 2))

    def test_chained_readers_where_the_first_one_meets_the_end(self):
        left, right = split(Listed([1, 2]), 2)
        row = Chained([left, Turned(right, lambda g: -g)])
        self.assertEqual(asked(row, 6), [*gifts(1, 2, -1, -2), END, END])

    def test_a_late_reader_behind_a_fault(self):
        left, right = split(scripted([*gifts(1, 2), TORN], []), 2)
        rows = [Ahead(left), Groups(right, abs)]
        self.assertEqual(rows[0].look(), ("gift", 1))
        self.assertEqual(asked(rows[0], 4), [*gifts(1, 2), TORN, END])
        self.assertEqual(asked(rows[1], 4), [*gifts(1, 2), END, END])
        self.assertIs(rows[1].group().is_over(), True)

    def test_a_copy_hangs_on_the_same_source(self):
        log = []
        source, row, left, right = self.diamond([*gifts(1, 2, 3, 4, 5, 6), END], log)
        row.ask()
        other = row.copied()
        self.assertEqual(asked(other, 2), gifts((40, (20, 30)), (60, (30, 40))))
        self.assertEqual(source.drawn(), 6)
        self.assertEqual((left.place(), right.place(), left.kept()), (2, 2, [30, 40, 50, 60]))
        self.assertEqual(asked(row, 2), gifts((40, (20, 30)), (60, (30, 40))))
        self.assertEqual((source.drawn(), left.kept()), (6, [50, 60]))
        row.close()
        self.assertEqual((source.is_closed(), left.kept()), (False, [50, 60]))
        self.assertEqual(other.ask(), END)
        other.close()
        self.assertEqual(log, [*[("s", k) for k in range(7)], ("s", "closed")])


class ManySourcesTest(unittest.TestCase):

    def test_in_which_order_the_sources_are_closed(self):
        log = []
        a, b, c, d = [gifts_forever(log, name) for name in "abcd"]
        of_a = split(a, 2)
        of_b = split(Several([b, of_a[0]], log, "b and a"), 3)
        groups = Groups(Chained([of_b[0], c]), lambda g: 0)
        row = Beside([Windows(of_b[1], 2, 1), groups, d, Ahead(of_b[2]), of_a[1]])
        row.ask()
        del log[:]
        row.close()
        self.assertEqual(log, [
            ("c", "closed"), ("d", "closed"), ("b and a", "closed"), ("b", "closed"),
            ("a", "closed")])
        self.assertEqual([one.is_closed() for one in (*of_a, *of_b)], [True] * 5)

    def test_copies_are_closed_ahead_of_the_source(self):
        log = []
        source, own = gifts_forever(log, "s"), gifts_forever(log, "own")
        left, right = split(source, 2)
        row = Chained([Windows(left, 1, 1), own])
        other = row.copied()
        row.close()
        self.assertEqual(log, [("own", "closed")])
        right.close()
        self.assertEqual(log, [("own", "closed")])
        other.close()
        self.assertEqual(log, [("own", "closed"), ("s", "closed"), ("own", "closed")])

    def test_all_sorts_upon_one_another(self):
        source = Counted(1, 1, 60)
        lowest = split(Sieved(source, lambda g: g % 3 != 0), 2)
        pairs = Windows(lowest[0], 2, 2)
        groups = Groups(Turned(pairs, sum), lambda g: g // 20)
        row = Ahead(Chained([Cut(Left(groups, 1), 2), Upto(lowest[1], lambda g: g < 5)]))
        self.assertEqual(row.look(), ("gift", 1))
        # Behind 3, 9, 15 comes 21, of 10 and 11.
        self.assertEqual(source.drawn(), 11)
        self.assertEqual(lowest[1].kept(), [1, 2, 4, 5, 7, 8, 10, 11])
        other = row.copied()
        self.assertEqual(asked(row, 2), gifts(1, 2))
        # Behind 27, 33, 39 comes 45, of 22 and 23.
        self.assertEqual(source.drawn(), 23)
        self.assertEqual(asked(row, 4), [*gifts(1, 2, 4), END])
        self.assertEqual(source.drawn(), 23)
        self.assertEqual(asked(other, 6), [*gifts(1, 2, 1, 2, 4), END])
        self.assertEqual(source.drawn(), 23)

    def test_twenty_upon_one_another_with_readers_and_groups(self):
        source = Counted(0, 1, 200)
        row, groups, others = source, [], []
        for at in range(4):
            row, other = split(row, 2)
            others.append(other)
            row = Windows(Ahead(row), 1, 1)
            row = Groups(Turned(row, lambda window: window[0]), lambda g: g)
            groups.append(row)
            row.ask()
            row = row.group()
        self.assertEqual(asked(row, 2), [("gift", 0), END])
        self.assertEqual(source.drawn(), 2)
        self.assertEqual([other.kept() for other in others], [[0, 1], [0], [0], [0]])
        self.assertEqual([one.is_over() for one in groups], [False, True, True, True])
        with self.assertRaises(Held):
            split(others[0].split_row(), 2)
        row.close()
        self.assertEqual([one.is_closed() for one in groups], [False] * 4)

    def test_a_group_beneath_several_holders(self):
        source = Listed([10, 11, 12, 20])
        groups = Groups(source, lambda g: g // 10)
        groups.ask()
        left, right = split(groups.group(), 2)
        row = Beside([left, Left(right, 1)])
        self.assertEqual(asked(row, 2), gifts((10, 11), (11, 12)))
        self.assertEqual((source.drawn(), left.kept()), (3, [12]))
        self.assertEqual(groups.ask(), ("gift", 2))
        self.assertEqual((source.drawn(), left.kept()), (4, [12]))
        self.assertEqual(asked(row, 2), [END, END])
        self.assertEqual((left.place(), right.is_over()), (3, True))
        self.assertIs(row.copied().is_over(), True)
