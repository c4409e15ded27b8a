"""Windows: how far they reach, and what is drawn for each."""

import itertools
import unittest

from giftstreams.sources import Counted, Listed
from giftstreams.windows import Windows
from tests.helpers import asked, gifts_forever, scripted

END = ("end",)
TORN = ("fault", "torn")


def whole_windows(numbers, size, step):
    """All whole windows, each with how many gifts were drawn behind it."""
    return [
        (tuple(numbers[at:at + size]), at + size)
        for at in range(0, len(numbers) - size + 1, step)]


class WindowsTest(unittest.TestCase):

    def check(self, many, size, step):
        source = Counted(1, 1, many)
        row = Windows(source, size, step)
        for window, drawn in whole_windows(range(1, many + 1), size, step):
            self.assertEqual(row.ask(), ("gift", window))
            self.assertEqual(source.drawn(), drawn)
        self.assertEqual((row.is_over(), source.is_over()), (False, False))
        self.assertEqual(asked(row, 2), [END, END])
        self.assertEqual((source.drawn(), row.is_over()), (many + 1, True))

    def test_all_small_sizes_steps_and_lengths(self):
        for size, step, many in itertools.product(range(1, 6), range(1, 7), range(13)):
            with self.subTest(size=size, step=step, many=many):
                self.check(many, size, step)

    def test_one_and_twenty_of_both(self):
        for size, step in itertools.product((1, 2, 19, 20), repeat=2):
            for many in (0, 1, 19, 20, 21, 39, 40, 41, 100, 200):
                with self.subTest(size=size, step=step, many=many):
                    self.check(many, size, step)

    def test_a_fault_at_each_place(self):
        for size, step, many in itertools.product((1, 2, 3), range(1, 6), range(9)):
            with self.subTest(size=size, step=step, many=many):
                log = []
                source = scripted([*[("gift", k) for k in range(many)], TORN], log)
                row = Windows(source, size, step)
                told = whole_windows(range(many), size, step)
                self.assertEqual(asked(row, len(told)), [("gift", window) for window, _ in told])
                self.assertEqual(asked(row, 3), [TORN, END, END])
                self.assertEqual(log, [("s", k) for k in range(many + 1)])

    def test_what_lies_between_is_drawn_ahead_of_the_next_window_not_behind_one(self):
        log = []
        row = Windows(gifts_forever(log), 2, 5)
        self.assertEqual(log, [])
        self.assertEqual(row.ask(), ("gift", (0, 1)))
        self.assertEqual(len(log), 2)
        self.assertEqual(row.ask(), ("gift", (5, 6)))
        self.assertEqual(log, [("s", k) for k in range(7)])
        self.assertEqual(row.ask(), ("gift", (10, 11)))

    def test_it_begins_with_the_first_gift_that_is_still_to_come(self):
        source = Counted(0, 1, 9)
        asked(source, 3)
        self.assertEqual(asked(Windows(source, 2, 4), 3), [("gift", (3, 4)), ("gift", (7, 8)), END])

    def test_windows_of_windows(self):
        row = Windows(Windows(Listed([1, 2, 3, 4]), 2, 1), 2, 1)
        self.assertEqual(asked(row, 3), [
            ("gift", ((1, 2), (2, 3))), ("gift", ((2, 3), (3, 4))), END])

    def test_copies_at_any_moment(self):
        for size, step in itertools.product(range(1, 5), range(1, 6)):
            for many in range(5):
                with self.subTest(size=size, step=step, asked=many):
                    row = Windows(Counted(0, 1, 14), size, step)
                    asked(row, many)
                    drawn = row.beneath()[0].drawn()
                    other = row.copied()
                    rest = asked(other, 15)
                    told = [("gift", window) for window, _ in whole_windows(range(14), size, step)]
                    self.assertEqual(rest, (told[many:] + [END] * 15)[:15])
                    self.assertEqual(row.beneath()[0].drawn(), drawn)
                    self.assertEqual(asked(row, 15), rest)
