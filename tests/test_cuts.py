"""Cut, left and upto rows: how many are told, left out and drawn."""

import unittest

from giftstreams.cuts import Cut, Left, Upto
from giftstreams.sources import Counted, Listed
from tests.helpers import asked, gifts_forever, scripted

END = ("end",)
TORN = ("fault", "torn")


def gifts(*numbers):
    return [("gift", number) for number in numbers]


class CutTest(unittest.TestCase):

    def test_the_first_so_many_for_each_n_and_length(self):
        for many in range(5):
            for n in range(7):
                with self.subTest(many=many, n=n):
                    source = Counted(1, 1, many)
                    row = Cut(source, n)
                    told = gifts(*range(1, min(many, n) + 1))
                    self.assertEqual(asked(row, len(told)), told)
                    self.assertEqual(source.drawn(), len(told))
                    self.assertEqual(asked(row, 3), [END] * 3)
                    self.assertEqual(source.drawn(), min(many + 1, n))
                    self.assertEqual((row.is_over(), source.is_over()), (True, many < n))

    def test_the_end_behind_them_asks_nobody(self):
        log = []
        row = Cut(gifts_forever(log), 2)
        self.assertEqual(asked(row, 4), [*gifts(0, 1), END, END])
        self.assertEqual(log, [("s", 0), ("s", 1)])

    def test_not_over_ahead_of_telling_the_end(self):
        row = Cut(Listed([]), 0)
        self.assertIs(row.is_over(), False)
        self.assertEqual(row.ask(), END)
        self.assertIs(row.is_over(), True)

    def test_two_hundred(self):
        source = gifts_forever([])
        row = Cut(source, 200)
        self.assertEqual(asked(row, 202), [*gifts(*range(200)), END, END])
        self.assertEqual(source.drawn(), 200)

    def test_a_fault_at_the_last_one(self):
        row = Cut(scripted([*gifts(1), TORN], []), 2)
        self.assertEqual(asked(row, 3), [*gifts(1), TORN, END])

    def test_from_where_the_row_beneath_stands(self):
        source = Counted(0, 1, 9)
        asked(source, 4)
        self.assertEqual(asked(Cut(source, 2), 3), [*gifts(4, 5), END])


class LeftTest(unittest.TestCase):

    def test_all_behind_the_first_so_many_for_each_n_and_length(self):
        for many in range(5):
            for n in range(7):
                with self.subTest(many=many, n=n):
                    source = Counted(1, 1, many)
                    row = Left(source, n)
                    told = gifts(*range(n + 1, many + 1))
                    drawn = []
                    for answer in [*told, END, END]:
                        self.assertEqual(row.ask(), answer)
                        drawn.append(source.drawn())
                    self.assertEqual(drawn, [
                        min(n + 1 + at, many + 1) for at in range(len(told) + 2)])

    def test_nobody_is_asked_ahead_of_the_first_asking(self):
        log = []
        row = Left(gifts_forever(log), 3)
        self.assertEqual(log, [])
        self.assertEqual(row.ask(), ("gift", 3))
        self.assertEqual(log, [("s", k) for k in range(4)])
        self.assertEqual(row.ask(), ("gift", 4))
        self.assertEqual(len(log), 5)

    def test_two_hundred(self):
        source = gifts_forever([])
        row = Left(source, 200)
        self.assertEqual(asked(row, 2), gifts(200, 201))
        self.assertEqual(source.drawn(), 202)

    def test_a_fault_at_each_place(self):
        for place in range(4):
            with self.subTest(place=place):
                source = scripted([*gifts(*range(place)), TORN], [])
                row = Left(source, 2)
                self.assertEqual(asked(row, 3), ([*gifts(2)] if place == 3 else []) + (
                    [TORN, END] if place == 3 else [TORN, END, END]))
                self.assertEqual(source.drawn(), place + 1)


class UptoTest(unittest.TestCase):

    def test_as_long_as_it_tells_true(self):
        log = []

        def below_three(thing):
            log.append(thing)
            return thing < 3

        source = Listed([1, 2, 3, 0, 1])
        row = Upto(source, below_three)
        self.assertEqual(asked(row, 2), gifts(1, 2))
        self.assertEqual((log, source.drawn()), ([1, 2], 2))
        self.assertEqual(asked(row, 3), [END] * 3)
        self.assertEqual((log, source.drawn(), source.is_over()), ([1, 2, 3], 3, False))

    def test_not_asked_of_an_end_or_a_fault(self):
        for last in (END, TORN):
            log = []
            row = Upto(scripted([("gift", (1, 2)), last], []), lambda g: log.append(g) or True)
            self.assertEqual(asked(row, 3), [("gift", (1, 2)), last, END])
            self.assertEqual(log, [(1, 2)])

    def test_the_end_at_the_first_one(self):
        source = Listed([9, 1])
        row = Upto(source, lambda g: g < 5)
        self.assertEqual(asked(row, 2), [END, END])
        self.assertEqual(source.drawn(), 1)

    def test_a_copy_tests_for_itself(self):
        log = []
        row = Upto(Counted(0, 1, 9), lambda g: log.append(g) or g < 2)
        row.ask()
        other = row.copied()
        self.assertEqual(asked(other, 2), [("gift", 1), END])
        self.assertEqual(log, [0, 1, 2])
        self.assertEqual(asked(row, 2), [("gift", 1), END])
        self.assertEqual(log, [0, 1, 2, 1, 2])
