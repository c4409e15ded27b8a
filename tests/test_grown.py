"""Rows that are grown from plans: of which sort they are, what they answer,
draw and hold, and what is refused."""

import itertools
import unittest

from giftstreams.ahead import Ahead
from giftstreams.cuts import Cut, Left, Upto
from giftstreams.errors import Closed, Held, NoPlan, NoRow
from giftstreams.groups import Groups
from giftstreams.joined import Beside, Chained
from giftstreams.nets import sources_of, taken
from giftstreams.plans import grown
from giftstreams.rows import Row
from giftstreams.sources import Counted, Listed
from giftstreams.spares import Spare, Wanted
from giftstreams.splits import split
from giftstreams.turned import Sieved, Turned
from giftstreams.windows import Windows
from tests.helpers import (
    GREAT, Thing, asked, closed_row, free_row, gifts_forever, held_and_closed_row, held_row,
    no_lists, no_rows, scripted, stands)
from tests.model import Log, MSource
from tests.plan_kit import (
    ADD, LEAF, PLANS, ROWS, SMALL, WORDS, Planner, deep_plan, model_of, own_rows, wide_plan)
from tests.test_plans import NO_PLANS
from tests.test_rules import no_tuples

END = ("end",)
TORN = ("fault", "torn")

# A plan upon the row 0, which tells 1, 2, 3, ..; the sort of the row that is
# grown; each answer, with how often row 0 was drawn behind it.
GROWN = [
    (("turn", (("times", 3), ("one",)), ("row", 0)), Turned,
     [(("gift", (3,)), 1), (("gift", (6,)), 2)]),
    (("turn", (), ("row", 0)), Turned, [(("gift", 1), 1), (("gift", 2), 2)]),
    (("sieve", (("rest", 3, 0),), ("row", 0)), Sieved, [(("gift", 3), 3), (("gift", 6), 6)]),
    (("sieve", (), ("row", 0)), Sieved, [(("gift", 1), 1), (("gift", 2), 2)]),
    (("upto", (("below", 3),), ("row", 0)), Upto, [(("gift", 1), 1), (("gift", 2), 2), (END, 3)]),
    (("upto", (("after", (("add", 5),), (("below", 7),)),), ("row", 0)), Upto,
     [(("gift", 1), 1), (END, 2)]),
    (("cut", 2, ("row", 0)), Cut, [(("gift", 1), 1), (("gift", 2), 2), (END, 2)]),
    (("cut", 0, ("row", 0)), Cut, [(END, 0)]),
    (("left", 3, ("row", 0)), Left, [(("gift", 4), 4), (("gift", 5), 5)]),
    (("chain", (("list", (8, 9)), ("row", 0), ("list", (7,)))), Chained,
     [(("gift", 8), 0), (("gift", 9), 0), (("gift", 1), 1), (("gift", 2), 2)]),
    (("chain", ()), Chained, [(END, 0)]),
    (("beside", (("row", 0), ("list", (8, 9)))), Beside,
     [(("gift", (1, 8)), 1), (("gift", (2, 9)), 2), (END, 3)]),
    (("beside", (("list", (8, 9)), ("row", 0))), Beside,
     [(("gift", (8, 1)), 1), (("gift", (9, 2)), 2), (END, 2)]),
    (("ahead", ("row", 0)), Ahead, [(("gift", 1), 1), (("gift", 2), 2)]),
    (("windows", 2, 3, ("row", 0)), Windows, [(("gift", (1, 2)), 2), (("gift", (4, 5)), 5)]),
    (("windows", 3, 2, ("row", 0)), Windows, [(("gift", (1, 2, 3)), 3), (("gift", (3, 4, 5)), 5)]),
    (("marks", 2, ("row", 0)), Groups, [(("gift", 1), 1), (("gift", 0), 2)]),
    (("marks", 1, ("row", 0)), Groups, [(("gift", 0), 1)]),
    (("marks", 7, ("windows", 2, 1, ("row", 0))), Groups,
     [(("gift", 3), 2), (("gift", 5), 3), (("gift", 0), 4)]),
    (("spare", ("broken", (8,), "torn"), ("row", 0)), Spare,
     [(("gift", 8), 0), (("gift", 1), 1), (("gift", 2), 2)]),
    (("spare", ("list", (8,)), ("row", 0)), Spare, [(("gift", 8), 0), (END, 0)]),
    (("wanted", 3, "few", ("cut", 2, ("row", 0))), Wanted,
     [(("gift", 1), 1), (("gift", 2), 2), (("fault", "few"), 2)]),
    (("wanted", 2, "few", ("cut", 2, ("row", 0))), Wanted,
     [(("gift", 1), 1), (("gift", 2), 2), (END, 2)])]

KINDS = {"free": free_row, "held": held_row, "closed": closed_row, "both": held_and_closed_row}


def gifts(*things):
    return [("gift", thing) for thing in things]


class GrownTest(unittest.TestCase):

    def test_sorts_answers_and_draws(self):
        for plan, sort, steps in GROWN:
            with self.subTest(plan):
                source = Counted(1, 1, 200)
                row = grown(plan, [source])
                self.assertIs(type(row), sort)
                self.assertEqual(stands(row)[:3], (False, False, False))
                self.assertEqual(source.drawn(), 0)
                for answer, drawn in steps:
                    self.assertEqual(row.ask(), answer)
                    self.assertEqual(source.drawn(), drawn)

    def test_sources(self):
        row = grown(("list", (5, -1, GREAT)), [])
        self.assertIs(type(row), Listed)
        self.assertEqual(asked(row, 5), [*gifts(5, -1, GREAT), END, END])
        row = grown(("count", 7, -2, 3), [])
        self.assertIs(type(row), Counted)
        self.assertEqual(asked(row, 5), [*gifts(7, 5, 3), END, END])
        self.assertEqual(row.drawn(), 4)

    def test_a_broken_one_is_one_source(self):
        for numbers in ((), (4,), (4, 4, -2)):
            row = grown(("broken", numbers, "torn"), [])
            self.assertEqual(sources_of(row), [row])
            self.assertEqual(stands(row), (False, False, False, []))
            drawn = []
            for answer in [*gifts(*numbers), TORN, END, END]:
                self.assertEqual(row.ask(), answer)
                drawn.append(row.drawn())
            many = len(numbers) + 1
            self.assertEqual(drawn, [*range(1, many + 1), many, many])
            self.assertIs(row.is_over(), True)

    def test_a_broken_one_is_copied_and_closed(self):
        row = grown(("broken", (1, 2), "torn"), [])
        row.ask()
        other = row.copied()
        self.assertEqual(asked(other, 3), [*gifts(2), TORN, END])
        self.assertEqual(row.drawn(), 1)
        other.close()
        self.assertEqual(asked(row, 3), [*gifts(2), TORN, END])
        row.close()
        self.assertIs(row.is_closed(), True)

    def test_what_each_holds(self):
        for plan in PLANS:
            with self.subTest(plan):
                rows = own_rows(60)
                row = grown(plan, rows)
                inner = plan[1] if plan[0] in ("chain", "beside") else [
                    thing for thing in plan[1:]
                    if isinstance(thing, tuple) and thing and isinstance(thing[0], str)]
                lower = row.beneath()
                self.assertEqual(len(lower), len(inner))
                for one, part in zip(lower, inner):
                    self.assertIs(one.is_held(), True)
                    if part[0] == "row":
                        self.assertIs(one, rows[part[1]])

    def test_each_word_answers_as_its_model(self):
        for plan in PLANS:
            with self.subTest(plan):
                row = grown(plan, own_rows(60))
                likened = model_of(plan, [
                    MSource([*gifts(at, at + 1, at + 10), END], Log(), "row") for at in range(60)])
                for _ in range(12):
                    self.assertEqual(row.ask(), likened.tell())
                    self.assertEqual(
                        [source.drawn() for source in sources_of(row)],
                        [source.drawn for source in likened.sources()])

    def test_deep_and_wide_plans_answer_as_their_models(self):
        for plan in (deep_plan(20), deep_plan(13), wide_plan()):
            row = grown(plan, own_rows(2))
            likened = model_of(plan, [
                MSource([*gifts(at, at + 1, at + 10), END], Log(), "row") for at in range(2)])
            for _ in range(30):
                self.assertEqual(row.ask(), likened.tell())

    def test_plans_as_they_come_answer_and_draw_as_their_models(self):
        for seed in range(600):
            planner = Planner(seed, WORDS, ROWS)
            plan = planner.plan(2 + planner.chance.below(12))
            with self.subTest(plan):
                scripts = [
                    [*gifts(*planner.numbers(12)), planner.chance.one_of([END, TORN])]
                    for _ in range(ROWS)]
                log, likened_log = [], Log()
                row = grown(plan, [scripted(script, log, at) for at, script in enumerate(scripts)])
                likened = model_of(plan, [
                    MSource(script, likened_log, at) for at, script in enumerate(scripts)])
                for _ in range(12):
                    self.assertEqual(row.ask(), likened.tell())
                    self.assertEqual(log, likened_log)
                    self.assertEqual(
                        [source.drawn() for source in sources_of(row)],
                        [source.drawn for source in likened.sources()])
                row.close()
                likened.shut()
                self.assertEqual(log, likened_log)

    def test_the_same_plan_again(self):
        first, second = [grown(wide_plan(), own_rows(2)) for _ in range(2)]
        self.assertEqual(taken(first, 50), taken(second, 50))
        self.assertIsNot(first, second)
        self.assertIsNot(first.beneath()[0], second.beneath()[0])

    def test_copies_of_what_was_grown(self):
        for seed in range(100):
            planner = Planner(seed, WORDS, ROWS)
            plan = planner.plan(10)
            for many in range(4):
                with self.subTest(plan, asked=many):
                    row = grown(plan, own_rows(ROWS))
                    asked(row, many)
                    other = row.copied()
                    answers = asked(other, 9)
                    self.assertEqual(asked(row, 9), answers)
                    self.assertEqual(asked(grown(plan, own_rows(ROWS)), many + 9)[many:], answers)

    def test_an_ahead_row_is_looked_at(self):
        source = Listed([4, 5])
        row = grown(("ahead", ("turn", ADD, ("row", 0))), [source])
        self.assertEqual([row.look(), row.look(), row.ask(), row.look()], gifts(6, 6, 6, 7))
        self.assertEqual(source.drawn(), 2)

    def test_groups_of_marks(self):
        row = grown(("marks", 3, ("list", (1, 4, -2, 5))), [])
        self.assertEqual(row.ask(), ("gift", 1))
        self.assertEqual(taken(row.group(), 9), ([1, 4, -2], END))
        self.assertEqual(row.ask(), ("gift", 2))

    def test_a_spare_one_notes_the_fault(self):
        row = grown(("spare", ("broken", (), "torn"), LEAF), [])
        row.ask()
        self.assertEqual(row.noted(), "torn")


class NamedRowsTest(unittest.TestCase):

    def test_of_the_row_alone_that_very_row_free_as_it_was(self):
        for at in range(3):
            rows = own_rows(3)
            row = grown(("row", at), rows)
            self.assertIs(row, rows[at])
            self.assertEqual([stands(one) for one in rows], [(False, False, False, [])] * 3)
            self.assertEqual(row.ask(), ("gift", at))

    def test_rows_of_any_sort_from_where_they_stand(self):
        first = Counted(0, 1, 9)
        asked(first, 3)
        readers = split(Listed([7, 8]), 2)
        groups = Groups(Listed([1, 1, 2]), abs)
        groups.ask()
        row = grown(
            ("beside", (("row", 1), ("row", 0), ("row", 3), ("row", 2))),
            [first, readers[1], groups.group(), readers[0]])
        self.assertEqual(asked(row, 3), [*gifts((7, 3, 7, 1), (8, 4, 8, 1)), END])
        over = Listed([])
        over.ask()
        self.assertEqual(asked(grown(("chain", (("row", 0), LEAF)), [over]), 2), gifts(5, -1))
        self.assertEqual(over.drawn(), 1)

    def test_the_numbers_from_nought_on(self):
        rows = own_rows(60)
        for at in (59, 0, 31):
            row = grown(("ahead", ("row", at)), rows)
            self.assertIs(row.beneath()[0], rows[at])
        self.assertEqual([at for at in range(60) if rows[at].is_held()], [0, 31, 59])

    def test_rows_that_are_not_named_stay_as_they_are(self):
        log = []
        rows = [gifts_forever(log, "a"), held_row(), closed_row(), held_and_closed_row(),
                gifts_forever(log, "e")]
        before = [stands(row) for row in rows]
        row = grown(("turn", ADD, ("row", 4)), rows)
        self.assertEqual([stands(one) for one in rows[:4]], before[:4])
        self.assertEqual((row.beneath(), rows[4].is_held()), ([rows[4]], True))
        self.assertEqual(log, [])
        grown(LEAF, rows[:4])
        self.assertEqual([stands(one) for one in rows[:4]], before[:4])
        self.assertEqual(rows[0].ask(), ("gift", 0))

    def test_one_that_stands_twice_and_is_not_named(self):
        twice, other = free_row(), free_row()
        row = grown(("ahead", ("row", 1)), [twice, other, twice])
        self.assertEqual((row.beneath(), twice.is_held()), ([other], False))

    def test_the_list_stays_as_it_was_and_is_not_kept(self):
        rows = own_rows(3)
        before = list(rows)
        row = grown(("beside", (("row", 2), ("row", 0))), rows)
        self.assertEqual(rows, before)
        rows.clear()
        self.assertEqual(row.beneath(), [before[2], before[0]])
        self.assertEqual(row.ask(), ("gift", (2, 0)))

    def test_the_sources_are_closed_with_it(self):
        log = []
        rows = [gifts_forever(log, name) for name in "abcd"]
        row = grown(("spare", ("row", 2), ("chain", (("row", 3), ("cut", 0, ("row", 0))))), rows)
        row.close()
        self.assertEqual(log, [("c", "closed"), ("d", "closed"), ("a", "closed")])
        self.assertIs(rows[1].is_closed(), False)


class RefusedTest(unittest.TestCase):

    def refuses(self, refusal, plan, rows):
        told = rows if isinstance(rows, list) else []
        before = [stands(row) for row in told if isinstance(row, Row)]
        handed = list(told)
        with self.assertRaises(refusal) as caught:
            grown(plan, rows)
        self.assertIs(type(caught.exception), refusal)
        self.assertEqual([stands(row) for row in told if isinstance(row, Row)], before)
        self.assertEqual(told, handed)

    def test_no_plan_ahead_of_all_else(self):
        for thing in [*NO_PLANS, *no_tuples(), ("turn", ADD, ("cut", 201, LEAF)), list(LEAF)]:
            with self.subTest(thing=thing):
                for rows in ([], own_rows(2), [held_row()], [closed_row(), None], None, (1,), Thing()):
                    self.refuses(NoPlan, thing, rows)

    def test_no_list(self):
        for thing in no_lists():
            for plan in (LEAF, ("row", 0), ("turn", SMALL[:0], ("row", 5)), ("chain", ())):
                with self.subTest(thing=thing):
                    self.refuses(NoRow, plan, thing)

    def test_a_thing_in_it_that_is_no_row_named_or_not(self):
        for thing in no_rows():
            for at in range(3):
                for plan in (LEAF, ("row", 0), ("ahead", ("row", 1)), ("row", 2), ("row", 9),
                             ("beside", (("row", 0), ("row", 0)))):
                    rows = [held_row(), closed_row()]
                    rows.insert(at, thing)
                    self.refuses(NoRow, plan, rows)

    def test_a_number_that_the_list_lacks(self):
        for many in range(4):
            for at in range(6):
                plans = [("row", at), ("ahead", ("row", at)), ("spare", LEAF, ("row", at)),
                         ("chain", (("row", at), LEAF)), ("beside", (LEAF, ("cut", 1, ("row", at))))]
                for plan in plans:
                    if at < many:
                        grown(plan, own_rows(many))
                        continue
                    self.refuses(NoRow, plan, own_rows(many))
                    self.refuses(NoRow, plan, [held_row() for _ in range(many)])
        self.refuses(NoRow, ("row", 59), own_rows(59))
        self.refuses(NoRow, ("beside", (("row", 0), ("row", 0), ("row", 1))), own_rows(1))

    def test_no_row_then_held_then_closed_of_named_ones(self):
        plan = ("beside", (("row", 2), ("ahead", ("spare", LEAF, ("row", 0))), ("row", 1)))
        for kinds in itertools.product(KINDS, repeat=3):
            with self.subTest(kinds):
                rows = [KINDS[kind]() for kind in kinds]
                if "held" in kinds or "both" in kinds:
                    self.refuses(Held, plan, rows)
                elif "closed" in kinds:
                    self.refuses(Closed, plan, rows)
                else:
                    self.assertEqual(asked(grown(plan, rows), 1), gifts((1, 5, 1)))
                self.refuses(NoRow, ("chain", (plan, ("row", 3))), rows)
                self.refuses(NoRow, plan, [*rows, None])

    def test_of_the_row_alone(self):
        for kind, refusal in (("held", Held), ("both", Held), ("closed", Closed)):
            row = KINDS[kind]()
            self.refuses(refusal, ("row", 0), [row])
            self.refuses(refusal, ("row", 1), [free_row(), row])
            self.assertIs(grown(("row", 0), [free := free_row(), row]), free)

    def test_one_named_twice_by_its_number(self):
        for plan in (("beside", (("row", 0), ("row", 0))), ("spare", ("row", 1), ("row", 1)),
                     ("chain", (("row", 1), LEAF, ("turn", (), ("ahead", ("row", 1)))))):
            self.refuses(Held, plan, own_rows(2))
            self.refuses(Held, plan, [closed_row(), closed_row()])
            self.refuses(Held, plan, [held_row(), held_row()])

    def test_one_named_twice_by_standing_twice(self):
        twice = free_row()
        for rows in ([twice, twice, free_row()], [twice, twice, closed_row()]):
            self.refuses(Held, ("beside", (("row", 0), ("row", 1))), rows)
            self.refuses(Held, ("chain", (("row", 2), ("row", 1), ("cut", 0, ("row", 0)))), rows)
        self.refuses(Held, ("spare", ("row", 0), ("row", 1)), [closed := closed_row(), closed])
        self.refuses(NoRow, ("spare", ("row", 0), ("row", 1)), [twice, twice, None])

    def test_nothing_is_held_asked_or_closed_where_it_is_refused(self):
        log = []
        rows = [gifts_forever(log, "a"), gifts_forever(log, "b"), closed_row()]
        for plan in (("beside", (("row", 0), ("row", 1), ("row", 2))),
                     ("beside", (("row", 0), ("row", 1), ("row", 0))),
                     ("beside", (("row", 0), ("row", 1), ("row", 3))),
                     ("beside", (("row", 0), ("row", 1), ("list", [1])))):
            with self.assertRaises((NoPlan, NoRow, Held, Closed)):
                grown(plan, rows)
        self.assertEqual(log, [])
        self.assertEqual([stands(row) for row in rows[:2]], [(False, False, False, [])] * 2)
        self.assertEqual(grown(("beside", (("row", 0), ("row", 1))), rows).ask(), ("gift", (0, 0)))
