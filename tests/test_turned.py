"""Turned and sieved rows: what their functions are asked."""

import unittest

from giftstreams.errors import Held
from giftstreams.sources import Counted, Listed
from giftstreams.turned import Sieved, Turned
from tests.helpers import GREAT, asked, scripted

END = ("end",)
MIXED = [("gift", 4), ("gift", ()), ("gift", (1, (2, -3))), ("gift", -GREAT), ("gift", 4), END]


def noting(log, tell):
    """A function that notes what it is asked for."""
    def noted(thing):
        log.append(thing)
        return tell(thing)

    return noted


class TurnedTest(unittest.TestCase):

    def test_what_the_function_tells_of_each_gift(self):
        row = Turned(Listed([3, -1, 0, GREAT]), lambda g: (g, g * g))
        self.assertEqual(asked(row, 6), [
            ("gift", (3, 9)), ("gift", (-1, 1)), ("gift", (0, 0)),
            ("gift", (GREAT, GREAT * GREAT)), END, END])

    def test_gifts_that_are_tuples_to_numbers(self):
        row = Turned(scripted([("gift", (1, 2)), ("gift", ()), END], []), len)
        self.assertEqual(asked(row, 3), [("gift", 2), ("gift", 0), END])

    def test_the_function_once_for_each_gift_in_order(self):
        log = []
        row = Turned(scripted(MIXED, []), noting(log, lambda g: 0))
        for at in range(5):
            self.assertEqual(row.ask(), ("gift", 0))
            self.assertEqual(log, [answer[1] for answer in MIXED[:at + 1]])
        asked(row, 3)
        self.assertEqual(len(log), 5)

    def test_the_function_is_not_asked_of_an_end_or_a_fault(self):
        for last in (END, ("fault", "torn")):
            log = []
            row = Turned(scripted([last], []), noting(log, len))
            self.assertEqual(asked(row, 2), [last, END])
            self.assertEqual(log, [])

    def test_the_function_is_not_asked_in_the_making_the_copying_the_closing(self):
        log = []
        row = Turned(Listed([1]), noting(log, abs))
        row.copied()
        row.close()
        self.assertEqual(log, [])

    def test_a_copy_asks_the_function_for_its_own_gifts(self):
        log = []
        row = Turned(Counted(0, 1, 4), noting(log, abs))
        asked(row, 2)
        other = row.copied()
        asked(other, 3)
        self.assertEqual(log, [0, 1, 2, 3])
        asked(row, 3)
        self.assertEqual(log, [0, 1, 2, 3, 2, 3])

    def test_turned_into_words_of_answers_they_are_gifts_all_the_same(self):
        row = Turned(Listed([0, 1]), lambda g: (("gift",), ("end",))[g] and (g,))
        self.assertEqual(asked(row, 3), [("gift", (0,)), ("gift", (1,)), END])


class SievedTest(unittest.TestCase):

    def test_those_gifts_of_which_it_tells_true(self):
        row = Sieved(Counted(-3, 1, 8), lambda g: g % 3 == 0)
        self.assertEqual(asked(row, 5), [("gift", -3), ("gift", 0), ("gift", 3), END, END])

    def test_an_asking_draws_till_there_is_one(self):
        source = Counted(1, 1, 30)
        row = Sieved(source, lambda g: g % 10 == 0)
        drawn = []
        for _ in range(4):
            row.ask()
            drawn.append(source.drawn())
        self.assertEqual(drawn, [10, 20, 30, 31])

    def test_the_function_once_for_each_gift_drawn_in_order(self):
        log = []
        row = Sieved(scripted(MIXED, []), noting(log, lambda g: g == 4))
        given = [answer[1] for answer in MIXED[:5]]
        self.assertEqual(row.ask(), ("gift", 4))
        self.assertEqual(log, given[:1])
        self.assertEqual(row.ask(), ("gift", 4))
        self.assertEqual(log, given)
        asked(row, 3)
        self.assertEqual(log, given)

    def test_the_function_is_not_asked_of_an_end_or_a_fault(self):
        for last in (END, ("fault", "torn")):
            log = []
            row = Sieved(scripted([("gift", 1), last], []), noting(log, lambda g: False))
            self.assertEqual(asked(row, 2), [last, END])
            self.assertEqual(log, [1])

    def test_it_reads_through_two_hundred(self):
        source = Counted(0, 1, 200)
        row = Sieved(source, lambda g: g == 199)
        self.assertEqual(asked(row, 2), [("gift", 199), END])
        self.assertEqual(source.drawn(), 201)

    def test_a_copy_asks_the_function_for_its_own_gifts(self):
        log = []
        row = Sieved(Counted(0, 1, 4), noting(log, lambda g: g > 0))
        row.ask()
        other = row.copied()
        other.ask()
        self.assertEqual(log, [0, 1, 2])
        row.ask()
        self.assertEqual(log, [0, 1, 2, 2])


class BothTest(unittest.TestCase):

    def test_the_one_upon_the_other(self):
        log = []
        source = Listed([1, 2, 3, 4, 5])
        turned = Turned(source, noting(log, lambda g: g * g))
        row = Sieved(turned, noting(log, lambda g: g % 2 == 0))
        self.assertEqual(asked(row, 3), [("gift", 4), ("gift", 16), END])
        self.assertEqual(log, [1, 1, 2, 4, 3, 9, 4, 16, 5, 25])
        with self.assertRaises(Held):
            turned.ask()
