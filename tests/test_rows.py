"""What holds of every row: answers, who may ask, closing, copies."""

import itertools
import unittest

from giftstreams.errors import Closed, Held, NoCopy, NoRow
from giftstreams.rows import Row, want_free
from giftstreams.sources import Counted, Listed, ToldBy
from tests.helpers import (
    Plain, Several, Thing, Uncopied, asked, closed_row, free_row, gifts_forever,
    held_and_closed_row, held_row, no_lists, no_rows, scripted, stands)

END = ("end",)


class AnswersTest(unittest.TestCase):

    def test_gifts_then_the_end_then_the_end_again(self):
        log = []
        row = scripted([("gift", 5), ("gift", (1, (2, ()))), END], log)
        self.assertEqual(asked(row, 5), [("gift", 5), ("gift", (1, (2, ()))), END, END, END])
        self.assertEqual(log, [("s", 0), ("s", 1), ("s", 2)])

    def test_fault_is_told_once_and_is_the_last_answer(self):
        log = []
        row = scripted([("gift", 5), ("fault", "torn"), ("gift", 6)], log)
        self.assertEqual(asked(row, 4), [("gift", 5), ("fault", "torn"), END, END])
        self.assertEqual(log, [("s", 0), ("s", 1)])

    def test_over_by_telling_the_end_not_ahead(self):
        row = Listed([5])
        self.assertIs(row.is_over(), False)
        row.ask()
        self.assertIs(row.is_over(), False)
        row.ask()
        self.assertIs(row.is_over(), True)
        row.ask()
        self.assertIs(row.is_over(), True)

    def test_over_by_telling_a_fault_not_ahead(self):
        row = scripted([("fault", "torn")], [])
        self.assertIs(row.is_over(), False)
        row.ask()
        self.assertIs(row.is_over(), True)

    def test_not_over_yet_while_the_last_answer_is_made(self):
        seen = []
        for last in (END, ("fault", "torn")):
            row = ToldBy(lambda k: seen.append(row.is_over()) or last, lambda: None)
            row.ask()
        self.assertEqual(seen, [False, False])

    def test_a_row_that_is_over_asks_nobody_beneath(self):
        log = []
        row = Several([scripted([END], log)], log)
        self.assertEqual(asked(row, 3), [END, END, END])
        self.assertEqual(log, [("s", 0)])
        self.assertEqual(row.nth, 1)

    def test_the_fault_of_one_beneath_ends_both(self):
        log = []
        left = gifts_forever(log, "left")
        right = scripted([("gift", 1), ("fault", "torn")], log, "right")
        row = Several([left, right], log)
        self.assertEqual(asked(row, 3), [("gift", (1, 0, 1)), ("fault", "torn"), END])
        self.assertEqual((row.is_over(), left.is_over(), right.is_over()), (True, False, True))
        self.assertEqual(log, [("left", 0), ("right", 0), ("left", 1), ("right", 1)])


class WantFreeTest(unittest.TestCase):

    def test_lists_of_free_rows_pass(self):
        for many in range(4):
            rows = [free_row() for _ in range(many)]
            before = list(rows)
            self.assertIsNone(want_free(rows))
            self.assertEqual(rows, before)
            for row in rows:
                self.assertEqual(stands(row), (False, False, False, []))

    def test_rows_that_are_over_are_free(self):
        row = Listed([])
        row.ask()
        want_free([row])
        Plain([row])

    def test_rows_of_any_class_under_row_pass(self):
        want_free([Plain([]), Several([Listed([1])], []), Listed([]), Counted(1, 1, 1)])

    def test_rows_alike_are_not_the_same_row(self):
        want_free([Listed([1]), Listed([1]), Plain([]), Plain([])])

    def test_what_is_no_list_is_no_row(self):
        for thing in no_lists():
            with self.subTest(thing=thing):
                with self.assertRaises(NoRow):
                    want_free(thing)
                with self.assertRaises(NoRow):
                    Plain(thing)

    def test_what_is_no_row_at_any_place(self):
        for thing in no_rows():
            for at in range(3):
                rows = [free_row(), free_row()]
                rows.insert(at, thing)
                with self.subTest(thing=thing, at=at):
                    with self.assertRaises(NoRow):
                        want_free(rows)
                    with self.assertRaises(NoRow):
                        Plain(rows)

    def test_held_ahead_of_closed_and_no_row_ahead_of_both(self):
        kinds = {
            "free": free_row, "held": held_row, "closed": closed_row,
            "both": held_and_closed_row, "none": Thing}
        for many in range(1, 4):
            for names in itertools.product(kinds, repeat=many):
                rows = [kinds[name]() for name in names]
                self.check_refused(rows, self.due(names))

    def test_one_that_stands_twice(self):
        for place in itertools.permutations(range(4)):
            twice = free_row()
            things = [twice, twice, free_row(), closed_row()]
            rows = [things[k] for k in place]
            self.check_refused(rows, Held)
            self.check_refused(rows + [Thing()], NoRow)
            self.check_refused([None] + rows, NoRow)

    def test_a_closed_one_that_stands_twice_is_held_first(self):
        closed = closed_row()
        self.check_refused([closed, closed], Held)
        self.check_refused([closed, free_row()], Closed)

    def due(self, names):
        if "none" in names:
            return NoRow
        if "held" in names or "both" in names:
            return Held
        if "closed" in names:
            return Closed
        return None

    def check_refused(self, rows, refusal):
        true_rows = [row for row in rows if isinstance(row, Row)]
        before = [stands(row) for row in true_rows]
        handed = list(rows)
        if refusal is None:
            want_free(rows)
            return
        with self.assertRaises(refusal):
            want_free(rows)
        with self.assertRaises(refusal):
            Plain(rows)
        self.assertEqual([stands(row) for row in true_rows], before)
        self.assertEqual(rows, handed)


class HeldTest(unittest.TestCase):

    def test_held_from_the_making_on_for_good(self):
        left, right = Listed([1]), Listed([2])
        self.assertIs(left.is_held(), False)
        row = Plain([left, right])
        self.assertEqual((left.is_held(), right.is_held(), row.is_held()), (True, True, False))
        row.ask()
        row.close()
        self.assertEqual((left.is_held(), right.is_held(), row.is_held()), (True, True, False))

    def test_beneath_tells_the_very_rows_in_order(self):
        rows = [Listed([1]), Plain([]), Counted(1, 1, 1)]
        row = Plain(rows)
        self.assertEqual(len(row.beneath()), 3)
        for told, handed in zip(row.beneath(), rows):
            self.assertIs(told, handed)
        self.assertEqual(Plain([row]).beneath(), [row])
        self.assertEqual(Plain([]).beneath(), [])

    def test_the_list_handed_in_is_not_kept(self):
        left, right = Listed([1]), Listed([2])
        rows = [left, right]
        row = Several(rows, [])
        rows.reverse()
        rows.append(Listed([3]))
        self.assertEqual(row.beneath(), [left, right])
        self.assertEqual(row.ask(), ("gift", (1, 1, 2)))

    def test_the_list_told_is_the_askers_own(self):
        left, right = Listed([1]), Listed([2])
        row = Several([left, right], [])
        told = row.beneath()
        told.clear()
        self.assertEqual(row.beneath(), [left, right])
        self.assertIsNot(row.beneath(), row.beneath())
        self.assertEqual(row.ask(), ("gift", (1, 1, 2)))

    def test_the_list_handed_in_is_unchanged(self):
        rows = [Listed([1]), Listed([2])]
        before = list(rows)
        Plain(rows).ask()
        self.assertEqual(rows, before)

    def test_one_row_can_not_be_held_twice(self):
        lower = Listed([1])
        first = Plain([lower])
        with self.assertRaises(Held):
            Plain([lower])
        self.assertEqual(first.beneath(), [lower])

    def test_what_is_held_begins_where_it_stands(self):
        lower = Counted(10, 1, 9)
        lower.ask()
        self.assertEqual(Several([lower], []).ask(), ("gift", (1, 11)))

    def test_what_is_over_is_held_as_over(self):
        lower = Listed([1])
        asked(lower, 2)
        row = Several([lower], [])
        self.assertEqual(row.ask(), END)
        self.assertEqual(lower.drawn(), 2)

    def test_all_is_told_at_any_time(self):
        lower = Listed([1])
        row = Several([lower], [])
        self.assertEqual(stands(row), (False, False, False, [lower]))
        asked(row, 2)
        self.assertEqual(stands(row), (True, False, False, [lower]))
        self.assertEqual(stands(lower), (True, False, True, []))
        row.close()
        self.assertEqual(stands(row), (True, True, False, [lower]))
        self.assertEqual(stands(lower), (True, True, True, []))


class DoorsTest(unittest.TestCase):
    """ask, close and copied are for the free row alone."""

    def doors(self, row):
        return [row.ask, row.close, row.copied]

    def test_refused_where_held(self):
        log = []
        lower = gifts_forever(log)
        Several([lower], log)
        for door in self.doors(lower):
            with self.assertRaises(Held):
                door()
        self.assertEqual(log, [])
        self.assertEqual(stands(lower), (False, False, True, []))
        self.assertEqual(lower.drawn(), 0)

    def test_refused_where_closed(self):
        log = []
        row = gifts_forever(log)
        row.close()
        del log[:]
        for door in self.doors(row):
            with self.assertRaises(Closed):
                door()
        self.assertEqual(log, [])
        self.assertEqual(stands(row), (False, True, False, []))
        self.assertEqual(row.drawn(), 0)

    def test_held_ahead_of_closed(self):
        lower = held_and_closed_row()
        for door in self.doors(lower):
            with self.assertRaises(Held):
                door()

    def test_refused_where_over_and_held_or_closed(self):
        held, closed = Listed([]), Listed([])
        held.ask()
        closed.ask()
        Plain([held])
        closed.close()
        for door in self.doors(held):
            with self.assertRaises(Held):
                door()
        for door in self.doors(closed):
            with self.assertRaises(Closed):
                door()

    def test_no_copy_behind_held_and_closed(self):
        held, closed = Uncopied([], []), Uncopied([], [])
        Plain([held])
        closed.close()
        with self.assertRaises(Held):
            held.copied()
        with self.assertRaises(Closed):
            closed.copied()

    def test_deep_beneath_is_held_too(self):
        lowest = Listed([1])
        middle = Plain([lowest])
        top = Plain([middle])
        for row in (lowest, middle):
            for door in self.doors(row):
                with self.assertRaises(Held):
                    door()
        self.assertEqual(top.ask(), END)


class ClosingTest(unittest.TestCase):

    def test_closed_for_good(self):
        row = Listed([1])
        self.assertIs(row.is_closed(), False)
        self.assertIsNone(row.close())
        self.assertIs(row.is_closed(), True)
        with self.assertRaises(Closed):
            row.close()
        self.assertIs(row.is_closed(), True)

    def test_from_the_left_to_the_right_each_with_all_beneath(self):
        log = []
        left = Several([gifts_forever(log, "a"), gifts_forever(log, "b")], log, "left")
        right = Several([gifts_forever(log, "c")], log, "right")
        top = Several([left, gifts_forever(log, "d"), right], log, "top")
        top.close()
        names = [name for name, word in log if word == "closed"]
        self.assertEqual(names, ["top", "left", "a", "b", "d", "right", "c"])
        self.assertEqual(len(log), 7)
        for row in (top, left, right) + tuple(top.beneath() + left.beneath() + right.beneath()):
            self.assertIs(row.is_closed(), True)

    def test_over_is_not_closed_nor_closed_over(self):
        lower = Listed([1])
        row = Several([lower], [])
        asked(row, 2)
        self.assertEqual((row.is_over(), row.is_closed()), (True, False))
        self.assertEqual((lower.is_over(), lower.is_closed()), (True, False))
        other_lower = Listed([1])
        other = Several([other_lower], [])
        other.close()
        self.assertEqual((other.is_over(), other.is_closed()), (False, True))
        self.assertEqual((other_lower.is_over(), other_lower.is_closed()), (False, True))

    def test_what_is_over_is_closed_all_the_same(self):
        log = []
        row = scripted([END], log)
        row.ask()
        row.close()
        self.assertEqual(log, [("s", 0), ("s", "closed")])
        self.assertEqual((row.is_over(), row.is_closed()), (True, True))

    def test_closing_asks_no_row(self):
        log = []
        lower = gifts_forever(log)
        Several([lower], log).close()
        self.assertEqual(log, [("several", "closed"), ("s", "closed")])
        self.assertEqual(lower.drawn(), 0)

    def test_closed_already_as_at_close_is_asked_and_those_beneath_not_yet(self):
        seen = []

        class Noting(Plain):
            def at_close(self):
                seen.append((self.is_closed(), [row.is_closed() for row in self.beneath()]))

        Noting([Listed([1]), Listed([2])]).close()
        self.assertEqual(seen, [(True, [False, False])])

    def test_at_close_does_nothing_where_not_put_otherwise(self):
        row = Plain([])
        self.assertIsNone(row.at_close())
        self.assertIs(row.is_closed(), False)


class CopiesTest(unittest.TestCase):

    def test_a_new_free_row_of_the_same_sort(self):
        lower = Counted(5, 1, 9)
        row = Several([lower], [])
        row.ask()
        other = row.copied()
        self.assertIs(type(other), Several)
        self.assertIsNot(other, row)
        self.assertEqual(stands(other)[:3], (False, False, False))
        self.assertEqual(len(other.beneath()), 1)
        self.assertIs(type(other.beneath()[0]), Counted)
        self.assertIsNot(other.beneath()[0], lower)
        self.assertIs(other.beneath()[0].is_held(), True)
        self.assertEqual(row.beneath(), [lower])

    def test_it_stands_where_the_copied_one_stands(self):
        row = Several([Counted(5, 1, 9), Listed([1, 2])], [])
        row.ask()
        other = row.copied()
        self.assertEqual(asked(other, 2), [("gift", (2, 6, 2)), END])
        self.assertEqual(asked(row, 2), [("gift", (2, 6, 2)), END])

    def test_over_where_that_is_over(self):
        log = []
        row = Several([scripted([END], log)], log)
        row.ask()
        other = row.copied()
        self.assertIs(other.is_over(), True)
        self.assertIs(other.beneath()[0].is_over(), True)
        self.assertEqual(asked(other, 2), [END, END])
        self.assertEqual(log, [("s", 0)])

    def test_over_by_a_fault_is_copied_as_over(self):
        row = scripted([("fault", "torn")], [])
        row.ask()
        other = row.copied()
        self.assertIs(other.is_over(), True)
        self.assertEqual(other.ask(), END)

    def test_one_beneath_that_is_over_while_the_upper_one_is_not(self):
        class Once(Plain):
            def next_answer(self):
                self.beneath()[0].told()
                return ("gift", 1)

            def copy_on(self, rows):
                return Once(rows)

        row = Once([Listed([])])
        row.ask()
        other = row.copied()
        self.assertEqual((other.is_over(), other.beneath()[0].is_over()), (False, True))
        self.assertEqual(other.beneath()[0].drawn(), 1)

    def test_neither_alters_the_other(self):
        row = Several([Counted(0, 1, 9)], [])
        row.ask()
        other = row.copied()
        asked(other, 3)
        self.assertEqual(row.ask(), ("gift", (2, 1)))
        row.close()
        self.assertEqual((other.is_closed(), other.beneath()[0].is_closed()), (False, False))
        self.assertEqual(other.ask(), ("gift", (5, 4)))
        third = other.copied()
        other.close()
        self.assertEqual((third.is_closed(), third.beneath()[0].is_closed()), (False, False))
        asked(third, 9)
        self.assertEqual((third.is_over(), other.is_over(), row.is_over()), (True, False, False))

    def test_copying_asks_nobody(self):
        log = []
        Several([gifts_forever(log)], log).copied()
        self.assertEqual(log, [])

    def test_a_copy_of_a_copy(self):
        row = Several([Counted(0, 1, 9)], [])
        row.ask()
        second = row.copied()
        second.ask()
        third = second.copied()
        self.assertIs(type(third), Several)
        self.assertEqual(third.ask(), ("gift", (3, 2)))
        self.assertEqual(second.ask(), ("gift", (3, 2)))
        self.assertEqual(row.ask(), ("gift", (2, 1)))

    def test_a_copy_can_be_held(self):
        row = Listed([1, 2])
        row.ask()
        self.assertEqual(Several([row.copied(), row], []).ask(), ("gift", (1, 2, 2)))

    def test_copies_upon_copies_in_the_same_order(self):
        low = [Listed([1]), Counted(2, 1, 9), Plain([])]
        middle = Several(low, [])
        top = Several([middle, Listed([7])], [])
        other = top.copied()
        kinds = [type(row) for row in other.beneath()]
        self.assertEqual(kinds, [Several, Listed])
        kinds = [type(row) for row in other.beneath()[0].beneath()]
        self.assertEqual(kinds, [Listed, Counted, Plain])
        for row in low + [middle]:
            self.assertNotIn(row, other.beneath() + other.beneath()[0].beneath())

    def test_closing_a_copy_closes_its_own_rows(self):
        log = []
        row = Several([gifts_forever(log)], log)
        other = row.copied()
        other.close()
        self.assertEqual(log, [("several", "closed"), ("s", "closed")])
        self.assertEqual(row.ask(), ("gift", (1, 0)))
        row.close()
        self.assertEqual(log[3:], [("several", "closed"), ("s", "closed")])

    def test_no_copy_of_one_that_may_not(self):
        log = []
        row = Uncopied([Listed([1])], log)
        with self.assertRaises(NoCopy):
            row.copied()
        self.assertEqual(log, [])
        self.assertEqual(row.ask(), ("gift", (1, 1)))

    def test_no_copy_of_one_upon_one_that_may_not_however_far_beneath(self):
        for at in range(3):
            log = []
            low = [Listed([1]), Listed([2])]
            low.insert(at, Uncopied([], log))
            row = Several(low, log)
            for _ in range(4):
                row = Several([Listed([3]), row], log)
            with self.assertRaises(NoCopy):
                row.copied()
            self.assertEqual(log, [])
            self.assertEqual(row.ask()[0], "gift")

    def test_no_copy_is_made_where_one_is_refused(self):
        made = []

        class Known(Plain):
            def copy_on(self, rows):
                made.append(self)
                return Known(rows)

        for rows in ([Known([]), Uncopied([], [])], [Uncopied([Known([])], []), Known([])]):
            with self.assertRaises(NoCopy):
                Known([Plain(rows)]).copied()
        self.assertEqual(made, [])
        Known([Known([])]).copied()
        self.assertEqual(len(made), 2)

    def test_may_copy_is_true_where_not_put_otherwise(self):
        for row in (Plain([]), Listed([]), Counted(1, 1, 1), gifts_forever([])):
            self.assertIs(row.may_copy(), True)
        self.assertIs(Uncopied([], []).may_copy(), False)
