"""What the holder of rows may ask of those beneath it."""

import unittest

from giftstreams.errors import Closed, Held, NoCopy, NoCount
from giftstreams.rows import Row, want_free
from giftstreams.sources import Counted, Listed
from tests.helpers import Plain, Several, Uncopied, asked, gifts_forever, scripted, stands

END = ("end",)


class TurnsAbout(Row):
    """Answers the gifts of two rows by turns, closes the left one early when
    it has ended, and can end what it holds."""

    def __init__(self, left, right):
        Row.__init__(self, [left, right])
        self.left = left
        self.right = right
        self.asks_left = True

    def next_answer(self):
        row = self.left if self.asks_left else self.right
        self.asks_left = not self.asks_left
        answer = row.told()
        if row.is_over():
            row.shut()
        return answer

    def copy_on(self, rows):
        other = TurnsAbout(rows[0], rows[1])
        other.asks_left = self.asks_left
        return other


class OwnRefusal(Row):
    """Refuses something of its own behind what is wrong with the rows."""

    def __init__(self, rows, many):
        want_free(rows)
        if many > 3:
            raise NoCount("too many")
        Row.__init__(self, rows)


class ToldTest(unittest.TestCase):

    def test_told_as_ask_though_held(self):
        lower = Listed([1, 2])
        row = Plain([lower])
        self.assertEqual([lower.told() for _ in range(4)], [("gift", 1), ("gift", 2), END, END])
        self.assertEqual(stands(lower), (True, False, True, []))
        self.assertEqual(lower.drawn(), 3)
        self.assertEqual(row.beneath(), [lower])

    def test_told_of_one_that_is_over_asks_nobody(self):
        log = []
        lower = scripted([("fault", "torn")], log)
        Plain([lower])
        self.assertEqual([lower.told() for _ in range(3)], [("fault", "torn"), END, END])
        self.assertEqual(log, [("s", 0)])

    def test_told_though_closed(self):
        lower = Listed([1])
        Plain([lower]).close()
        self.assertEqual([lower.told(), lower.told()], [("gift", 1), END])

    def test_two_rows_by_turns(self):
        row = TurnsAbout(Listed([1, 2]), Counted(10, 10, 9))
        answers = [("gift", 1), ("gift", 10), ("gift", 2), ("gift", 20), END, END]
        self.assertEqual(asked(row, 6), answers)
        self.assertEqual(row.right.drawn(), 2)


class ShutTest(unittest.TestCase):

    def test_shut_as_close_though_held(self):
        log = []
        lower = Several([gifts_forever(log)], log, "lower")
        row = Several([lower], log, "row")
        self.assertIsNone(lower.shut())
        self.assertEqual(log, [("lower", "closed"), ("s", "closed")])
        self.assertEqual((lower.is_closed(), lower.beneath()[0].is_closed()), (True, True))
        self.assertEqual((row.is_closed(), lower.is_over()), (False, False))

    def test_shut_of_one_that_is_closed_does_nothing(self):
        log = []
        lower = Several([gifts_forever(log)], log, "lower")
        row = Several([lower, gifts_forever(log, "right")], log, "row")
        lower.shut()
        lower.shut()
        del log[:]
        row.close()
        self.assertEqual(log, [("row", "closed"), ("right", "closed")])
        row.shut()
        lower.beneath()[0].shut()
        self.assertEqual(log, [("row", "closed"), ("right", "closed")])

    def test_one_beneath_shut_ahead_of_the_one_between(self):
        log = []
        source = gifts_forever(log)
        lower = Several([source], log, "lower")
        row = Several([lower], log, "row")
        source.shut()
        row.close()
        self.assertEqual(log, [("s", "closed"), ("row", "closed"), ("lower", "closed")])

    def test_an_early_closing_and_the_holders_own(self):
        log = []
        row = TurnsAbout(scripted([END], log, "left"), gifts_forever(log, "right"))
        row.ask()
        self.assertEqual(log, [("left", 0), ("left", "closed")])
        row.close()
        self.assertEqual(log[2:], [("right", "closed")])


class WholeCopyTest(unittest.TestCase):

    def test_whole_copy_as_copied_though_held(self):
        lower = Several([Counted(0, 1, 9)], [])
        row = Several([lower], [])
        row.ask()
        other = lower.whole_copy()
        self.assertIs(type(other), Several)
        self.assertEqual(stands(other)[:3], (False, False, False))
        self.assertEqual(other.ask(), ("gift", (2, 1)))
        self.assertEqual(row.ask(), ("gift", (2, (2, 1))))
        self.assertEqual(lower.is_held(), True)

    def test_whole_copy_of_one_that_is_closed_is_free(self):
        lower = Listed([1, 2])
        row = Plain([lower])
        lower.told()
        row.close()
        for other in (lower.whole_copy(), row.whole_copy()):
            self.assertEqual(stands(other)[:3], (False, False, False))
        self.assertEqual(asked(lower.whole_copy(), 2), [("gift", 2), END])

    def test_whole_copy_of_one_that_is_over(self):
        lower = Listed([])
        Plain([lower])
        lower.told()
        other = lower.whole_copy()
        self.assertIs(other.is_over(), True)
        self.assertEqual(other.drawn(), 1)

    def test_whole_copy_refuses_what_can_not_be_copied(self):
        log = []
        lower = Several([Listed([1]), Uncopied([], log)], log)
        Plain([lower])
        with self.assertRaises(NoCopy):
            lower.whole_copy()
        with self.assertRaises(NoCopy):
            lower.beneath()[1].whole_copy()
        self.assertEqual(log, [])


class EndItTest(unittest.TestCase):

    def test_over_from_now_on_and_nobody_is_asked(self):
        log = []
        lower = gifts_forever(log)
        row = Several([lower], log)
        row.ask()
        self.assertIsNone(lower.end_it())
        self.assertIs(lower.is_over(), True)
        self.assertEqual(lower.told(), END)
        self.assertIs(row.is_over(), False)
        self.assertEqual(row.ask(), END)
        self.assertEqual(log, [("s", 0)])
        self.assertEqual(lower.drawn(), 1)

    def test_one_that_is_over_stays_so(self):
        lower = Listed([])
        Plain([lower])
        lower.told()
        lower.end_it()
        lower.end_it()
        self.assertEqual((lower.is_over(), lower.is_closed()), (True, False))
        self.assertEqual(lower.told(), END)

    def test_what_was_ended_is_copied_as_over(self):
        lower = gifts_forever([])
        row = Several([lower], [])
        lower.end_it()
        other = row.copied()
        self.assertEqual((other.is_over(), other.beneath()[0].is_over()), (False, True))
        self.assertEqual(other.ask(), END)

    def test_a_row_may_end_itself_with_a_gift(self):
        class LastGift(Plain):
            def next_answer(self):
                self.end_it()
                return ("gift", 3)

        row = LastGift([])
        self.assertEqual(asked(row, 3), [("gift", 3), END, END])


class MakingTest(unittest.TestCase):

    def test_an_own_refusal_comes_behind_and_holds_none(self):
        left, right = Listed([1]), Listed([2])
        closed = Listed([3])
        closed.close()
        with self.assertRaises(NoCount):
            OwnRefusal([left, right], 4)
        with self.assertRaises(Closed):
            OwnRefusal([left, closed], 4)
        with self.assertRaises(Held):
            OwnRefusal([left, left], 4)
        self.assertEqual((left.is_held(), right.is_held(), closed.is_held()), (False,) * 3)
        self.assertEqual(OwnRefusal([left, right], 3).beneath(), [left, right])

    def test_row_by_itself_tells_no_answer_and_no_copy(self):
        with self.assertRaises(NotImplementedError):
            Row([]).ask()
        with self.assertRaises(NotImplementedError):
            Row([]).copied()
