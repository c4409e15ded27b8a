"""Plans as texts, and which texts are those of plans."""

import unittest

from giftstreams.errors import NoPlan, NoText
from giftstreams.plans import is_plan
from giftstreams.plantexts import plan_text, read_plan
from giftstreams.steps import plainest
from tests.helpers import GREAT
from tests.plan_kit import ADD, LEAF, PLANS, WORDS, Planner, deep_plan, parts_of, wide_plan
from tests.test_plans import NO_PLANS
from tests.test_rules import RULES, TESTS, no_tuples
from tests.test_spares import no_texts

TEXTS = [
    (("list", ()), "list 0"),
    (("list", (5,)), "list 1 5"),
    (("list", (5, -1, 0)), "list 3 5 -1 0"),
    (("broken", (), "torn"), "broken 0 torn"),
    (("broken", (1, -20), "abcdefgh"), "broken 2 1 -20 abcdefgh"),
    (("count", 0, -3, 200), "count 0 -3 200"),
    (("count", -10, 0, 0), "count -10 0 0"),
    (("row", 0), "row 0"),
    (("row", 59), "row 59"),
    (("turn", (), ("row", 1)), "turn 0 row 1"),
    (("turn", (("add", 2), ("times", -3), ("rest", 4), ("one",), ("sum",)), ("row", 1)),
     "turn 5 add 2 times -3 rest 4 one sum row 1"),
    (("sieve", (), ("row", 1)), "sieve 0 row 1"),
    (("sieve", (("rest", 3, 2), ("below", -7)), ("row", 1)), "sieve 2 rest 3 2 below -7 row 1"),
    (("upto", (("after", (), ()),), ("row", 1)), "upto 1 after 0 0 row 1"),
    (("upto", (("after", (("one",), ("rest", 5)), (("rest", 5, 0), ("below", 9))), ("below", 1)),
      ("row", 1)), "upto 2 after 2 one rest 5 2 rest 5 0 below 9 below 1 row 1"),
    (("sieve", (("after", (("sum",),), (("after", (("add", 1),), (("below", 0),)),)),), ("row", 1)),
     "sieve 1 after 1 sum 1 after 1 add 1 1 below 0 row 1"),
    (("cut", 0, ("row", 1)), "cut 0 row 1"),
    (("left", 200, ("row", 1)), "left 200 row 1"),
    (("chain", ()), "chain 0"),
    (("chain", (("row", 1),)), "chain 1 row 1"),
    (("chain", (("list", ()), ("chain", ()), ("list", (0,)))), "chain 3 list 0 chain 0 list 1 0"),
    (("beside", (("row", 1), ("row", 0))), "beside 2 row 1 row 0"),
    (("beside", (("row", 0),) * 6), "beside 6 row 0 row 0 row 0 row 0 row 0 row 0"),
    (("ahead", ("row", 1)), "ahead row 1"),
    (("windows", 20, 1, ("row", 1)), "windows 20 1 row 1"),
    (("marks", 7, ("row", 1)), "marks 7 row 1"),
    (("spare", ("row", 1), ("list", (2,))), "spare row 1 list 1 2"),
    (("wanted", 3, "few", ("row", 1)), "wanted 3 few row 1"),
    (("wanted", 3, "list", ("broken", (1,), "row")), "wanted 3 list broken 1 1 row"),
    (("cut", 3, ("turn", (("add", 2), ("one",)), ("list", (5, -1)))),
     "cut 3 turn 2 add 2 one list 2 5 -1"),
    (("list", (GREAT, -GREAT)), f"list 2 {GREAT} -{GREAT}")]

NO_TEXTS = [
    "", " ", "  ", "list", "list ", " list 0", "list 0 ", "list  0", "list 0  ", "list\t0",
    "list 0\n", "list\n0", "\nlist 0", "list 00", "list +0", "list -0", "list 1", "list 1 +1",
    "list 1 01", "list 1 -01", "list 1 -0", "list 1 00", "list 1 0x1", "list 1 1.0", "list 1 1e1",
    "list 1 1_0", "list 1 --1", "list 1 - 1", "list 1 -", "list 1 a", "list 1 1 1", "list 2 1",
    "list -1", "list -1 1", "list 01 1", "list a", "list one", "list 0 0", "list 0 list 0",
    "List 0", "LIST 0", "lists 0", "li st 0", "list,0", "list (0)", "(list 0)", "'list' 0", "0",
    "1 list 0", "5 -1", "list 60", "list 999999999999999999999999999999 1",
    "list -999999999999999999999999999999", "broken", "broken 0", "broken 0 0", "broken torn",
    "broken 0 torn torn", "broken 1 torn", "broken 0 Torn", "broken 0 abcdefghi", "broken 0 to-rn",
    "broken 0 -", "broken 1 1", "broken torn 0", "count", "count 1", "count 1 1", "count 1 1 1 1",
    "count 1 1 201", "count 1 1 -1", "count 1 1 01", "count 1 a 1", "row", "row 60", "row -1",
    "row 1 1", "row a", "row 01", "row row 1", "turn", "turn 0", "turn row 1", "turn 1 row 1",
    "turn 1 add row 1", "turn 1 add 2 one row 1", "turn 2 add 2 row 1", "turn add 2 row 1",
    "turn 1 rest 0 row 1", "turn 1 rest -1 row 1", "turn 1 rest 3 2 row 1", "turn 1 below 3 row 1",
    "turn 1 after 0 0 row 1", "turn 1 one 1 row 1", "turn -1 row 1", "turn 00 row 1",
    "sieve row 1", "sieve 1 row 1", "sieve 1 rest 3 row 1", "sieve 1 rest 3 3 row 1",
    "sieve 1 rest 3 -1 row 1", "sieve 1 rest 0 0 row 1", "sieve 1 add 2 row 1", "sieve 1 one row 1",
    "sieve 1 after row 1", "sieve 1 after 0 row 1", "sieve 1 after 1 below 2 0 row 1",
    "sieve 1 after 0 1 add 2 row 1", "sieve 1 after 0 1 rest 2 2 row 1", "upto", "upto 0",
    "upto 1 below row 1", "upto 1 below a row 1", "upto row 1 0", "cut", "cut 1", "cut row 1",
    "cut 201 row 1", "cut -1 row 1", "cut 1 row 1 row 1", "cut 01 row 1", "cut 1 1 row 1",
    "left 201 row 1", "left -1 row 1", "left row 1", "chain", "chain row 1", "chain 1",
    "chain 2 row 1", "chain 1 row 1 row 2", "chain -1", "chain 0 row 1", "chain 00",
    "chain 7 row 1 row 2 row 3 row 4 row 5 row 6 row 7", "beside", "beside 0", "beside 1",
    "beside 0 row 1", "beside 7 row 1 row 2 row 3 row 4 row 5 row 6 row 7", "beside 2 row 1",
    "ahead", "ahead 1", "ahead 1 row 1", "ahead row 1 row 1", "windows row 1", "windows 1 row 1",
    "windows 0 1 row 1", "windows 1 0 row 1", "windows 21 1 row 1", "windows 1 21 row 1",
    "windows 1 1 1 row 1", "windows 1 1", "marks row 1", "marks 0 row 1", "marks -1 row 1",
    "marks 1", "spare row 1", "spare 2 row 1 row 2", "spare row 1 row 2 row 3", "spare", "wanted",
    "wanted 1 row 1", "wanted few 1 row 1", "wanted 201 few row 1", "wanted -1 few row 1",
    "wanted 1 Few row 1", "wanted 1 few", "wanted 1 few row 1 row 1", "wanted 1 1 row 1", "add 2",
    "one", "below 7", "rest 3", "rest 3 2", "after 0 0", "plan list 0", "ok", "grow a 0 list 0",
    "cut 3 turn 2 add 2 one list 2 5", "cut 3 turn 2 add 2 one list 2 5 -1 0"]


class PlanTextTest(unittest.TestCase):

    def test_texts_of_each_word(self):
        self.assertEqual(len({plan[0] for plan, _ in TEXTS}), 16)
        for plan, text in TEXTS:
            with self.subTest(text):
                before = repr(plan)
                self.assertEqual(plan_text(plan), text)
                self.assertEqual(repr(plan), before)
                self.assertEqual(repr(read_plan(text)), before)

    def test_no_plan_of_anything(self):
        for thing in [*NO_PLANS, *no_tuples(), ("turn", ADD, ("cut", 201, LEAF)), "list 0"]:
            with self.subTest(thing=thing):
                with self.assertRaises(NoPlan):
                    plan_text(thing)

    def test_there_and_back(self):
        plans = [*PLANS, deep_plan(20), wide_plan()]
        plans += [("turn", rule, LEAF) for rule in RULES] + [("upto", test, LEAF) for test in TESTS]
        for seed in range(300):
            planner = Planner(seed, WORDS, 5)
            plans.append(planner.plan(1 + planner.chance.below(40)))
        self.assertEqual(len(parts_of(wide_plan())), 60)
        for plan in plans:
            with self.subTest(plan=plan):
                text = plan_text(plan)
                self.assertEqual(repr(read_plan(text)), repr(plan))
                self.assertEqual(text.split(), text.split(" "))

    def test_what_was_told_may_be_handed_in_again(self):
        plan = LEAF
        for at in range(19):
            plan = ("turn", ADD * 30, plan) if at % 2 else ("upto", (("below", at),), plan)
        told, _ = plainest(plan)
        self.assertGreater(len(plan_text(told)), 2000)
        self.assertEqual(read_plan(plan_text(told)), told)


class ReadPlanTest(unittest.TestCase):

    def refuses(self, text):
        with self.assertRaises(NoText) as caught:
            read_plan(text)
        self.assertIs(type(caught.exception), NoText)

    def test_what_is_no_text(self):
        for thing in [*no_texts(), LEAF, ["list", "0"], b"list 0"]:
            with self.subTest(thing=thing):
                self.refuses(thing)

    def test_what_is_not_the_text_of_a_plan(self):
        for text in NO_TEXTS:
            with self.subTest(text):
                self.refuses(text)

    def test_blanks_at_any_place(self):
        for _, text in TEXTS:
            self.refuses(" " + text)
            self.refuses(text + " ")
            for at, sign in enumerate(text):
                if sign == " ":
                    for blank in ("  ", "", "\t", "\n", ",", "_"):
                        self.refuses_other(text[:at] + blank + text[at + 1:], text)

    def refuses_other(self, text, was):
        """It may be the text of another plan, but never of the same one."""
        try:
            plan = read_plan(text)
        except NoText:
            return
        self.assertNotEqual(text, was)
        self.assertEqual(plan_text(plan), text)

    def test_words_too_few_too_many_or_others(self):
        """Whatever is read is just the text of the plan that is told."""
        for _, text in TEXTS:
            words = text.split(" ")
            for at in range(len(words)):
                self.refuses_other(" ".join(words[:at] + words[at + 1:]), text)
                for word in ("0", "1", "-1", "list", "row", "add", "one", "torn", "x", "201", "00"):
                    self.refuses_other(" ".join(words[:at] + [word] + words[at:]), text)
                    changed = words[:at] + [word] + words[at + 1:]
                    if changed != words:
                        self.refuses_other(" ".join(changed), text)
            for at in range(len(words)):
                if at:
                    self.refuses(" ".join(words[:at]))
            for word in ("0", "row 1", "torn", "-"):
                self.refuses(f"{text} {word}")

    def test_how_numbers_are_written(self):
        for number in (0, 5, -5, 10, -10, 100, GREAT, -GREAT):
            self.assertEqual(read_plan(f"list 1 {number}"), ("list", (number,)))
            for wrong in (f"0{number}", f"+{number}", f" {number}", f"{number} ", f"{number}.", f"-0{number}",
                          f"{number}.0", f"0x{number}", f"{number}_0", f"({number})", f"--{number}"):
                self.refuses(f"list 1 {wrong}")
                self.refuses(f"count 1 {wrong} 1")
        for number in (0, 1, 5, 10, 100, 200):
            self.assertEqual(read_plan(f"cut {number} row 1"), ("cut", number, ("row", 1)))
            for wrong in (f"0{number}", f"+{number}", f"-{number}"):
                self.refuses(f"cut {wrong} row 1")
        for many in range(1, 4):
            for wrong in (f"0{many}", f"+{many}", f"-{many}", "-0", str(many + 1), str(many - 1)):
                self.refuses(f"chain {wrong}{' row 1' * many}")
                self.refuses(f"list {wrong}{' 7' * many}")
                self.refuses(f"turn {wrong}{' one' * many} row 1")

    def test_bounds(self):
        for text, least, most in (
                ("row {}", 0, 59), ("cut {} list 0", 0, 200), ("left {} list 0", 0, 200),
                ("count 1 1 {}", 0, 200), ("windows {} 1 list 0", 1, 20),
                ("windows 1 {} list 0", 1, 20), ("wanted {} few list 0", 0, 200),
                ("marks {} list 0", 1, None), ("turn 1 rest {} list 0", 1, None),
                ("sieve 1 rest 7 {} list 0", 0, 6), ("upto 1 rest {} 4 list 0", 5, None)):
            self.assertIs(is_plan(read_plan(text.format(least))), True)
            self.refuses(text.format(least - 1))
            if most is not None:
                self.assertIs(is_plan(read_plan(text.format(most))), True)
                self.refuses(text.format(most + 1))
            self.refuses(text.format(-GREAT))

    def test_long_texts_that_are_none(self):
        for piece in ("ahead", "cut 1", "cut 201", "chain 1", "spare list 0", "turn 1", "list 9",
                      "sieve 1 after 0 1", "upto 1 after 0", "0", "list", "turn 60 add 1"):
            text = " ".join([piece] * 400)[:2000].strip()
            with self.subTest(piece):
                self.refuses(text)
                self.refuses(text + " row 60")

    def test_numbers_of_many_things(self):
        for text in ("list {} 1", "chain {} list 0", "beside {} list 0", "turn {} one list 0",
                     "sieve {} below 1 list 0", "broken {} torn", "upto 1 after {} one 0 list 0"):
            for many in (2, 61, 10 ** 6, 10 ** 12, GREAT, -GREAT):
                self.refuses(text.format(many))
