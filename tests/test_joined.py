"""Rows chained and beside one another."""

import itertools
import unittest

from giftstreams.joined import Beside, Chained
from giftstreams.sources import Counted, Listed
from tests.helpers import Several, asked, gifts_forever, scripted

END = ("end",)
TORN = ("fault", "torn")


def gifts(*numbers):
    return [("gift", number) for number in numbers]


class ChainedTest(unittest.TestCase):

    def test_all_lengths_of_up_to_four_rows(self):
        for many in range(5):
            for lengths in itertools.product(range(3), repeat=many):
                with self.subTest(lengths=lengths):
                    sources = [Counted(10 * at, 1, length) for at, length in enumerate(lengths)]
                    row = Chained(sources)
                    numbers = [
                        (10 * at + k, at) for at, length in enumerate(lengths)
                        for k in range(length)]
                    for number, place in numbers:
                        self.assertEqual(row.ask(), ("gift", number))
                        drawn = [length + 1 for length in lengths[:place]]
                        drawn += [number % 10 + 1] + [0] * (many - place - 1)
                        self.assertEqual([source.drawn() for source in sources], drawn)
                    self.assertEqual(asked(row, 2), [END, END])
                    self.assertEqual(
                        [source.drawn() for source in sources],
                        [length + 1 for length in lengths])

    def test_of_none_the_end(self):
        row = Chained([])
        self.assertEqual((row.is_over(), row.beneath()), (False, []))
        self.assertEqual(asked(row, 2), [END, END])
        self.assertIs(row.is_over(), True)

    def test_six(self):
        row = Chained([Listed([number]) for number in range(6)])
        self.assertEqual(asked(row, 8), [*gifts(*range(6)), END, END])

    def test_a_fault_of_one_and_nothing_of_those_behind_it(self):
        log = []
        rows = [scripted([*gifts(1), END], log, "a"), scripted([TORN], log, "b"),
                gifts_forever(log, "c")]
        row = Chained(rows)
        self.assertEqual(asked(row, 4), [*gifts(1), TORN, END, END])
        self.assertEqual(log, [("a", 0), ("a", 1), ("b", 0)])
        self.assertEqual([one.is_over() for one in rows], [True, True, False])

    def test_one_that_told_its_fault_ahead_is_over_as_an_empty_one(self):
        first = scripted([TORN], [])
        first.ask()
        self.assertEqual(asked(Chained([first, Listed([7])]), 2), [*gifts(7), END])

    def test_a_copy_stands_in_the_same_row(self):
        row = Chained([Listed([1]), Listed([2, 3]), Listed([4])])
        asked(row, 2)
        other = row.copied()
        self.assertEqual(asked(other, 3), [*gifts(3, 4), END])
        self.assertEqual([lower.drawn() for lower in row.beneath()], [2, 1, 0])
        self.assertEqual([lower.drawn() for lower in other.beneath()], [2, 3, 2])

    def test_closed_from_the_left_also_those_that_were_not_begun(self):
        log = []
        inner = [gifts_forever(log, name) for name in "abc"]
        row = Chained([Several(inner[:2], log, "left"), inner[2]])
        row.ask()
        del log[:]
        row.close()
        self.assertEqual(log, [(name, "closed") for name in ("left", "a", "b", "c")])


class BesideTest(unittest.TestCase):

    def test_all_lengths_of_up_to_four_rows(self):
        for many in range(1, 5):
            for lengths in itertools.product(range(3), repeat=many):
                with self.subTest(lengths=lengths):
                    sources = [Counted(10 * at, 1, length) for at, length in enumerate(lengths)]
                    row = Beside(sources)
                    shortest = min(lengths)
                    for k in range(shortest):
                        told = tuple(10 * at + k for at in range(many))
                        self.assertEqual(row.ask(), ("gift", told))
                        self.assertEqual([source.drawn() for source in sources], [k + 1] * many)
                    self.assertEqual(asked(row, 2), [END, END])
                    first = lengths.index(shortest)
                    self.assertEqual(
                        [source.drawn() for source in sources],
                        [shortest + 1] * (first + 1) + [shortest] * (many - first - 1))

    def test_one_row_gives_tuples_of_one(self):
        row = Beside([Beside([Listed([5])])])
        self.assertEqual(asked(row, 2), [("gift", ((5,),)), END])

    def test_asked_from_the_left_to_the_right(self):
        log = []
        row = Beside([gifts_forever(log, name) for name in "abcdef"])
        self.assertEqual(asked(row, 2), [("gift", (0,) * 6), ("gift", (1,) * 6)])
        self.assertEqual(log, [(name, k) for k in range(2) for name in "abcdef"])

    def test_a_fault_at_each_place(self):
        for place in range(4):
            with self.subTest(place=place):
                log = []
                rows = [gifts_forever(log, name) for name in "abcd"]
                rows[place] = scripted([*gifts(8), TORN], log, "x")
                row = Beside(rows)
                row.ask()
                del log[:]
                self.assertEqual(asked(row, 3), [TORN, END, END])
                self.assertEqual(log, [(name, 1) for name in "abcd"[:place] + "x"])
                self.assertEqual([one.is_over() for one in rows], [at == place for at in range(4)])

    def test_what_came_of_those_to_the_left_is_lost(self):
        left, right = Counted(0, 1, 9), Listed([1])
        row = Beside([left, right])
        asked(row, 3)
        self.assertEqual(left.drawn(), 2)
        self.assertEqual(asked(row.copied(), 2), [END, END])

    def test_tuples_of_tuples(self):
        row = Beside([scripted([("gift", (1, ())), END], []), Listed([2])])
        self.assertEqual(asked(row, 2), [("gift", ((1, ()), 2)), END])

    def test_the_one_and_the_other_upon_one_another(self):
        row = Chained([Beside([Listed([1, 2]), Listed([3])]), Beside([Chained([])]),
                       Beside([Chained([Listed([]), Listed([4])])])])
        self.assertEqual(asked(row, 3), [("gift", (1, 3)), ("gift", (4,)), END])
