"""Spare and wanted rows: what is noted, who is asked, what is refused."""

import itertools
import unittest

from giftstreams.ahead import Ahead
from giftstreams.errors import Closed, Held, NoCopy, NoCount, NoRow, NoText
from giftstreams.groups import Groups
from giftstreams.joined import Beside, Chained
from giftstreams.rows import Row
from giftstreams.sources import Counted, Listed
from giftstreams.spares import Spare, Wanted
from giftstreams.splits import split
from giftstreams.turned import Turned
from tests.helpers import (
    Plain, Thing, asked, closed_row, free_row, gifts_forever, held_and_closed_row, held_row,
    no_rows, no_wholes, scripted, stands)

END = ("end",)
TORN = ("fault", "torn")
GONE = ("fault", "gone")
KINDS = {
    "free": free_row, "held": held_row, "closed": closed_row, "both": held_and_closed_row,
    "none": Thing}


def gifts(*things):
    return [("gift", thing) for thing in things]


def no_texts():
    """Things of which none is a text."""
    return [
        None, True, False, 0, 7, -1, b"", b"torn", (), ("torn",), [], ["torn"], {}, {"t": 1},
        set(), {"torn"}, Thing(), Thing, str, len, lambda: "torn", range(3), iter("torn"),
        NoText("torn"), Listed([1])]


class SpareTest(unittest.TestCase):

    def test_noted_is_none_till_the_fault_and_the_word_from_then_on(self):
        row = Spare(scripted([*gifts(1, 2), TORN], []), scripted([*gifts(7), GONE], []))
        told = []
        for _ in range(6):
            told.append((row.noted(), row.ask()))
        self.assertEqual(told, [
            (None, ("gift", 1)), (None, ("gift", 2)), (None, ("gift", 7)), ("torn", GONE),
            ("torn", END), ("torn", END)])
        self.assertEqual(row.noted(), "torn")

    def test_noted_stays_none_where_the_first_one_ends(self):
        row = Spare(Listed([1]), scripted([TORN], []))
        asked(row, 4)
        self.assertIsNone(row.noted())
        self.assertEqual(row.beneath()[1].drawn(), 0)

    def test_the_other_one_is_asked_in_the_same_asking_and_not_ahead(self):
        log = []
        row = Spare(scripted([*gifts(1), TORN], log, "a"), gifts_forever(log, "b"))
        self.assertEqual(log, [])
        row.ask()
        self.assertEqual(log, [("a", 0)])
        self.assertEqual(row.ask(), ("gift", 0))
        self.assertEqual(log, [("a", 0), ("a", 1), ("b", 0)])
        self.assertEqual(row.ask(), ("gift", 1))
        self.assertEqual(log[3:], [("b", 1)])

    def test_a_fault_that_says_nothing_is_noted_too(self):
        row = Spare(scripted([("fault", "")], []), Listed([7]))
        self.assertEqual(asked(row, 3), [*gifts(7), END, END])
        self.assertEqual(row.noted(), "")
        self.assertEqual(row.copied().noted(), "")

    def test_the_first_one_is_asked_no_more_behind_its_fault(self):
        asked_ones = []

        class Noting(Plain):
            def told(self):
                asked_ones.append("first")
                return Row.told(self)

            def next_answer(self):
                return TORN

        row = Spare(Noting([]), Counted(0, 1, 9))
        asked(row, 4)
        self.assertEqual(asked_ones, ["first"])

    def test_the_first_one_is_over_by_its_fault_and_the_spare_is_not(self):
        first, other = scripted([TORN], []), Listed([7])
        row = Spare(first, other)
        row.ask()
        self.assertEqual((row.is_over(), first.is_over(), other.is_over()), (False, True, False))
        asked(row, 1)
        self.assertEqual((row.is_over(), first.is_over(), other.is_over()), (True, True, True))

    def test_over_at_the_end_of_the_first_one_with_the_other_one_left(self):
        log = []
        first, other = scripted([END], log, "a"), scripted(gifts(7), log, "b")
        row = Spare(first, other)
        self.assertEqual(asked(row, 3), [END, END, END])
        self.assertEqual((row.is_over(), first.is_over(), other.is_over()), (True, True, False))
        self.assertEqual(log, [("a", 0)])

    def test_a_first_one_that_is_over_already(self):
        for last in (END, TORN):
            log = []
            first = scripted([last], log, "a")
            first.ask()
            row = Spare(first, gifts_forever(log, "b"))
            self.assertEqual(asked(row, 2), [END, END])
            self.assertIsNone(row.noted())
            self.assertEqual(log, [("a", 0)])

    def test_another_one_that_is_over_already(self):
        for last in (END, GONE):
            other = scripted([last], [])
            other.ask()
            row = Spare(scripted([*gifts(1), TORN], []), other)
            self.assertEqual(asked(row, 3), [*gifts(1), END, END])
            self.assertEqual((row.noted(), other.drawn()), ("torn", 1))

    def test_both_begin_where_they_stand(self):
        first, other = scripted([*gifts(1, 2), TORN], []), Counted(7, 1, 3)
        first.ask()
        asked(other, 2)
        row = Spare(first, other)
        self.assertEqual(asked(row, 4), [*gifts(2, 9), END, END])

    def test_it_holds_both_the_first_to_the_left(self):
        first, other = Listed([1]), Listed([2])
        row = Spare(first, other)
        self.assertEqual(stands(row), (False, False, False, [first, other]))
        for one in (first, other):
            self.assertEqual(stands(one), (False, False, True, []))
            with self.assertRaises(Held):
                one.ask()

    def test_both_are_closed_with_it_in_that_order_at_any_moment(self):
        for many in range(5):
            log = []
            row = Spare(scripted([*gifts(1), TORN], log, "a"), scripted([*gifts(7), END], log, "b"))
            asked(row, many)
            noted, over = row.noted(), row.is_over()
            del log[:]
            row.close()
            self.assertEqual(log, [("a", "closed"), ("b", "closed")])
            self.assertEqual((row.noted(), row.is_over()), (noted, over))

    def test_neither_is_closed_by_a_fault_or_an_end(self):
        log = []
        row = Spare(scripted([TORN], log, "a"), scripted([END], log, "b"))
        asked(row, 3)
        self.assertEqual(log, [("a", 0), ("b", 0)])
        self.assertEqual([one.is_closed() for one in [row, *row.beneath()]], [False] * 3)

    def test_noted_of_one_that_is_held_over_or_closed(self):
        row = Spare(scripted([TORN], []), Listed([7]))
        upper = Turned(row, abs)
        self.assertIsNone(row.noted())
        upper.ask()
        self.assertEqual((row.is_held(), row.noted()), (True, "torn"))
        upper.ask()
        self.assertEqual((row.is_over(), row.noted()), (True, "torn"))
        upper.close()
        self.assertEqual((row.is_closed(), row.noted()), (True, "torn"))
        unasked = Spare(scripted([TORN], []), Listed([7]))
        unasked.close()
        self.assertIsNone(unasked.noted())

    def test_a_copy_ahead_of_the_fault_notes_it_for_itself(self):
        row = Spare(scripted([*gifts(1), TORN], []), Listed([7, 8]))
        row.ask()
        other = row.copied()
        self.assertEqual(asked(other, 2), gifts(7, 8))
        self.assertEqual((other.noted(), row.noted()), ("torn", None))
        self.assertEqual(row.beneath()[1].drawn(), 0)
        self.assertEqual(asked(row, 3), [*gifts(7, 8), END])
        self.assertEqual(other.ask(), END)

    def test_a_copy_behind_the_fault_has_noted_it_too(self):
        log = []
        row = Spare(scripted([TORN], log, "a"), gifts_forever(log, "b"))
        row.ask()
        other = row.copied()
        self.assertEqual((other.noted(), stands(other)[:3]), ("torn", (False, False, False)))
        self.assertEqual([one.is_over() for one in other.beneath()], [True, False])
        self.assertEqual(asked(other, 2), gifts(1, 2))
        self.assertEqual(row.ask(), ("gift", 1))
        self.assertEqual(log.count(("a", 0)), 1)

    def test_a_copy_of_one_that_is_over_and_of_one_beneath(self):
        row = Spare(scripted([TORN], []), Listed([]))
        row.ask()
        other = Chained([row]).copied().beneath()[0]
        self.assertEqual((other.is_over(), other.noted(), other.is_held()), (True, "torn", True))

    def test_a_fault_met_through_an_ahead_row(self):
        first = Ahead(scripted([TORN], []))
        first.look()
        self.assertEqual(Spare(first, Listed([7])).ask(), END)
        upper = Ahead(Spare(scripted([TORN], []), Listed([7])))
        self.assertEqual([upper.look(), upper.look(), upper.ask()], gifts(7, 7, 7))
        self.assertEqual(upper.beneath()[0].noted(), "torn")

    def test_a_fault_met_through_a_group_ends_its_groups(self):
        groups = Groups(scripted([*gifts(1), TORN], []), abs)
        groups.ask()
        group = groups.group()
        row = Spare(group, groups)
        self.assertEqual(asked(row, 3), [*gifts(1), END, END])
        self.assertEqual((row.noted(), groups.is_over()), ("torn", True))
        with self.assertRaises(NoCopy):
            row.copied()

    def test_both_on_readers_of_one_split(self):
        source = scripted([*gifts(1, 2), TORN], [])
        left, right = split(source, 2)
        row = Spare(left, right)
        self.assertEqual(asked(row, 6), [*gifts(1, 2, 1, 2), END, END])
        self.assertEqual((row.noted(), source.drawn()), ("torn", 3))
        self.assertEqual(left.kept(), [])

    def test_a_fault_that_another_reader_met_is_an_end_here(self):
        left, right = split(scripted([*gifts(1), TORN], []), 2)
        asked(left, 2)
        row = Spare(right, Listed([7]))
        self.assertEqual(asked(row, 3), [*gifts(1), END, END])
        self.assertIsNone(row.noted())


class SpareRefusalTest(unittest.TestCase):

    def refuses(self, refusal, first, other):
        rows = [one for one in (first, other) if isinstance(one, Row)]
        before = [stands(one) for one in rows]
        with self.assertRaises(refusal) as caught:
            Spare(first, other)
        self.assertIs(type(caught.exception), refusal)
        self.assertEqual([stands(one) for one in rows], before)

    def test_the_first_refusal_that_is_due_of_both(self):
        for kinds in itertools.product(KINDS, repeat=2):
            with self.subTest(kinds):
                rows = [KINDS[kind]() for kind in kinds]
                if "none" in kinds:
                    self.refuses(NoRow, *rows)
                elif "held" in kinds or "both" in kinds:
                    self.refuses(Held, *rows)
                elif "closed" in kinds:
                    self.refuses(Closed, *rows)
                else:
                    self.assertEqual(Spare(*rows).beneath(), rows)

    def test_what_is_no_row_on_either_side(self):
        for thing in no_rows():
            for make in KINDS.values():
                with self.subTest(thing=thing):
                    self.refuses(NoRow, make(), thing)
                    self.refuses(NoRow, thing, make())

    def test_the_same_row_twice(self):
        for name, make in KINDS.items():
            row = make()
            self.refuses(NoRow if name == "none" else Held, row, row)


class WantedTest(unittest.TestCase):

    def test_a_fault_in_the_place_of_the_end_for_each_n_and_length(self):
        for many, n in itertools.product(range(6), repeat=2):
            with self.subTest(many=many, n=n):
                source = Counted(1, 1, many)
                row = Wanted(source, n, "bare")
                last = ("fault", "bare") if many < n else END
                self.assertEqual(asked(row, many), gifts(*range(1, many + 1)))
                self.assertIs(row.is_over(), False)
                self.assertEqual(asked(row, 3), [last, END, END])
                self.assertEqual((row.is_over(), source.drawn()), (True, many + 1))

    def test_two_hundred(self):
        for many, last in ((199, ("fault", "bare")), (200, END)):
            row = Wanted(Counted(1, 1, many), 200, "bare")
            self.assertEqual(asked(row, many + 2), [*gifts(*range(1, many + 1)), last, END])

    def test_a_fault_beneath_is_told_as_it_is(self):
        for many, n in itertools.product(range(3), range(4)):
            row = Wanted(scripted([*gifts(*range(many)), TORN], []), n, "bare")
            self.assertEqual(asked(row, many + 2), [*gifts(*range(many)), TORN, END])

    def test_of_one_that_is_over_or_stands_further_on(self):
        for n, last in ((0, END), (1, ("fault", "bare"))):
            for script in ([END], [TORN]):
                source = scripted(script, [])
                source.ask()
                row = Wanted(source, n, "bare")
                self.assertIs(row.is_over(), False)
                self.assertEqual(asked(row, 2), [last, END])
                self.assertEqual(source.drawn(), 1)
        source = Counted(1, 1, 4)
        asked(source, 2)
        self.assertEqual(asked(Wanted(source, 3, "bare"), 3), [*gifts(3, 4), ("fault", "bare")])

    def test_gifts_told_ahead_count_in_a_copy_too(self):
        for many, n, told in itertools.product(range(5), range(6), range(5)):
            if told > many:
                continue
            with self.subTest(many=many, n=n, told=told):
                row = Wanted(Counted(1, 1, many), n, "bare")
                asked(row, told)
                other = row.copied().copied()
                last = ("fault", "bare") if many < n else END
                rest = [*gifts(*range(told + 1, many + 1)), last, END]
                self.assertEqual(asked(other, len(rest)), rest)
                self.assertEqual(asked(row, len(rest)), rest)

    def test_over_by_the_fault_is_copied_as_over(self):
        row = Wanted(Listed([]), 1, "bare")
        row.ask()
        other = row.copied()
        self.assertEqual((other.is_over(), other.ask()), (True, END))

    def test_its_fault_meets_those_above_once(self):
        lower = Wanted(Listed([1]), 2, "bare")
        row = Beside([lower, gifts_forever([])])
        self.assertEqual(asked(row, 3), [("gift", (1, 0)), ("fault", "bare"), END])
        self.assertEqual((lower.is_over(), lower.told()), (True, END))

    def test_any_text_will_do(self):
        for word in ("", "a", "a longer text, with signs: (~)", "end", "x" * 2000):
            row = Wanted(Listed([]), 1, word)
            self.assertEqual(asked(row, 2), [("fault", word), END])

    def test_no_text_behind_all_else(self):
        for thing in no_texts():
            with self.subTest(thing=thing):
                log = []
                row = gifts_forever(log)
                before = stands(row)
                with self.assertRaises(NoText):
                    Wanted(row, 3, thing)
                for count in [*no_wholes(), -1, 201]:
                    with self.assertRaises(NoCount):
                        Wanted(row, count, thing)
                for make, refusal in ((held_row, Held), (closed_row, Closed),
                                      (held_and_closed_row, Held), (Thing, NoRow)):
                    for count in (3, None, -1):
                        with self.assertRaises(refusal):
                            Wanted(make(), count, thing)
                self.assertEqual((log, stands(row)), ([], before))
                self.assertEqual(Wanted(row, 3, "torn").beneath(), [row])

    def test_it_is_closed_with_its_row(self):
        log = []
        row = Wanted(scripted([END], log), 1, "bare")
        row.ask()
        row.close()
        self.assertEqual(log, [("s", 0), ("s", "closed")])
