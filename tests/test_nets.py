"""Rows upon one another, several deep: how often each source is drawn."""

import itertools
import unittest

from giftstreams.cuts import Cut, Left, Upto
from giftstreams.joined import Beside, Chained
from giftstreams.sources import Counted
from giftstreams.turned import Sieved, Turned
from tests.helpers import asked, gifts_forever
from tests.likeness import LOWEST, OTHERS, READERS_TOO, WAYS, grown
from tests.scenes import leaves

END = ("end",)


class LikenessTest(unittest.TestCase):

    def agree(self, row, alike, rows, counts):
        for _ in range(9):
            self.assertEqual(row.ask(), alike.ask())
            self.assertEqual([one.drawn() for one in rows], counts)
            self.assertIs(row.is_over(), alike.over)

    def test_one_and_two_deep(self):
        for depth in (1, 2):
            for names in itertools.product(READERS_TOO, repeat=depth):
                for lowest, other in itertools.product(LOWEST, OTHERS):
                    with self.subTest(names, lowest=lowest, other=other):
                        self.agree(*grown(names, lowest, other))

    def test_three_deep(self):
        for names in itertools.product(READERS_TOO, repeat=3):
            with self.subTest(names):
                self.agree(*grown(names, LOWEST[-1], OTHERS[-1]))

    def test_copies_go_on_as_the_likeness(self):
        for names in itertools.product(WAYS, repeat=2):
            for many in range(4):
                with self.subTest(names, asked=many):
                    row, alike, rows, counts = grown(names, LOWEST[-1], OTHERS[-1])
                    for _ in range(many):
                        row.ask()
                        alike.ask()
                    other = row.copied()
                    at_copying = [one.drawn() for one in leaves(row)]
                    answers = asked(other, 9)
                    self.assertEqual([one.drawn() for one in leaves(row)], at_copying)
                    self.assertEqual(answers, [alike.ask() for _ in range(9)])
                    self.assertEqual(asked(row, 9), answers)
                    self.assertEqual(
                        [one.drawn() for one in leaves(other)],
                        [one.drawn() for one in leaves(row)])


class DeepTest(unittest.TestCase):

    def test_twenty_upon_one_another(self):
        source = Counted(0, 1, 200)
        row = source
        for at in range(19):
            row = [
                lambda lower: Turned(lower, lambda g: g + 1),
                lambda lower: Left(lower, 1),
                lambda lower: Sieved(lower, lambda g: g % 7 != 0),
                lambda lower: Cut(lower, 100),
                lambda lower: Upto(lower, lambda g: g < 90),
                lambda lower: Chained([lower])][at % 6](row)
        row = Beside([row])
        # Three times: one more, one left out, no sevens, at most a hundred,
        # below 90; then once more one more.
        expected = list(range(200))
        for _ in range(3):
            expected = [g + 1 for g in expected][1:]
            expected = [g for g in expected if g % 7 != 0][:100]
            expected = list(itertools.takewhile(lambda g: g < 90, expected))
        expected = [("gift", (g + 1,)) for g in expected]
        other = row.copied()
        self.assertEqual(asked(row, len(expected) + 2), [*expected, END, END])
        self.assertLess(source.drawn(), 100)
        self.assertEqual(asked(other, len(expected) + 2), [*expected, END, END])
        self.assertEqual(leaves(other)[0].drawn(), source.drawn())

    def test_twenty_turned_ones_draw_one_by_one(self):
        log = []
        source = gifts_forever(log)
        row = source
        for _ in range(20):
            row = Turned(row, lambda g: g + 1)
        for at in range(3):
            self.assertEqual(row.ask(), ("gift", at + 20))
            self.assertEqual(source.drawn(), at + 1)
        row.close()
        self.assertEqual(log[3:], [("s", "closed")])
        while row.beneath():
            row = row.beneath()[0]
            self.assertEqual((row.is_held(), row.is_closed()), (True, True))

    def test_twenty_left_rows_draw_all_they_leave_out_at_the_first_asking(self):
        source = gifts_forever([])
        row = source
        for _ in range(20):
            row = Left(row, 5)
        self.assertEqual(row.ask(), ("gift", 100))
        self.assertEqual(source.drawn(), 101)
        self.assertEqual(row.ask(), ("gift", 101))
        self.assertEqual(source.drawn(), 102)

    def test_a_tree_of_rows(self):
        sources = [Counted(at, 100, 9) for at in range(36)]
        row = Beside([Beside(sources[at:at + 6]) for at in range(0, 36, 6)])
        told = tuple(tuple(range(at, at + 6)) for at in range(0, 36, 6))
        self.assertEqual(row.ask(), ("gift", told))
        chained = Chained([Chained([Cut(row, 1)]), Chained([]), Chained([Counted(7, 1, 1)])])
        self.assertEqual(chained.ask()[1][5][5], 135)
        self.assertEqual(asked(chained, 2), [("gift", 7), END])
        self.assertEqual([source.drawn() for source in sources], [2] * 36)
