"""Which things are plans."""

import unittest

from giftstreams.plans import is_plan
from giftstreams.sources import Listed
from tests.helpers import GREAT, Thing, no_wholes
from tests.plan_kit import ADD, LEAF, PLANS, SMALL, deep_plan, parts_of, replaced, wide_plan
from tests.test_rules import NO_RULE_PARTS, NO_TEST_PARTS, RULES, TESTS, no_tuples

# Where a number stands: the plan with it, the least and the greatest one.
NUMBERS = [
    (lambda n: ("list", (1, n, 2)), None, None),
    (lambda n: ("list", (n,)), None, None),
    (lambda n: ("broken", (n,), "torn"), None, None),
    (lambda n: ("count", n, 1, 1), None, None),
    (lambda n: ("count", 1, n, 1), None, None),
    (lambda n: ("count", 1, 1, n), 0, 200),
    (lambda n: ("row", n), 0, 59),
    (lambda n: ("cut", n, LEAF), 0, 200),
    (lambda n: ("left", n, LEAF), 0, 200),
    (lambda n: ("windows", n, 1, LEAF), 1, 20),
    (lambda n: ("windows", 1, n, LEAF), 1, 20),
    (lambda n: ("marks", n, LEAF), 1, None),
    (lambda n: ("wanted", n, "torn", LEAF), 0, 200),
    (lambda n: ("turn", (("rest", n),), LEAF), 1, None),
    (lambda n: ("turn", (("add", n),), LEAF), None, None),
    (lambda n: ("turn", (("times", n),), LEAF), None, None),
    (lambda n: ("sieve", (("below", n),), LEAF), None, None),
    (lambda n: ("upto", (("rest", 5, n),), LEAF), 0, 4),
    (lambda n: ("sieve", (("rest", n, 0),), LEAF), 1, None)]

WITH_WORD = [lambda word: ("broken", (1,), word), lambda word: ("wanted", 1, word, LEAF)]

NO_WORDS = [
    "", "abcdefghi", "A", "Torn", "torN", "a b", " torn", "torn ", "a1", "1", "a-b", "a_b", "a.",
    "`", "{", "~", "a" * 60, b"torn", None, True, 0, 7, ("torn",), ["torn"], (), Thing(), str]

# Where plans stand: the plan with one there.
WITH_PLAN = [
    lambda p: ("turn", ADD, p), lambda p: ("sieve", SMALL, p), lambda p: ("upto", SMALL, p),
    lambda p: ("cut", 1, p), lambda p: ("left", 1, p), lambda p: ("ahead", p),
    lambda p: ("windows", 2, 1, p), lambda p: ("marks", 2, p), lambda p: ("spare", p, LEAF),
    lambda p: ("spare", LEAF, p), lambda p: ("wanted", 1, "few", p), lambda p: ("chain", (p,)),
    lambda p: ("chain", (LEAF, p, LEAF)), lambda p: ("beside", (p,)),
    lambda p: ("beside", (LEAF, LEAF, p))]

NO_PLANS = [
    (), ("list",), ("list", 1), ("list", (1,), (2,)), ("list", [1]), ["list", (1,)],
    ("list", ((1,),)), ("list", 1, 2), ("broken", (1,)), ("broken", "torn"), ("broken", "torn", (1,)),
    ("broken", [1], "torn"), ("broken", (1,), "torn", LEAF), ("count", 1, 1), ("count", 1, 1, 1, 1),
    ("count", (1, 1, 1)), ("row",), ("row", 1, 2), ("row", (1,)), ("row", LEAF), ("turn", ADD),
    ("turn", LEAF), ("turn", LEAF, ADD), ("turn", ("add", 2), LEAF), ("turn", [("add", 2)], LEAF),
    ("turn", (["add", 2],), LEAF), ("turn", SMALL, LEAF), ("turn", ADD, LEAF, LEAF),
    ("sieve", SMALL), ("sieve", ADD, LEAF), ("sieve", LEAF, SMALL), ("sieve", ("below", 7), LEAF),
    ("sieve", [("below", 7)], LEAF), ("upto", ADD, LEAF), ("upto", SMALL), ("upto", LEAF),
    ("cut", 1), ("cut", LEAF), ("cut", LEAF, 1), ("cut", 1, LEAF, LEAF), ("cut", (1,), LEAF),
    ("left", 1), ("left", LEAF), ("left", LEAF, 1), ("chain",), ("chain", LEAF), ("chain", [LEAF]),
    ("chain", (LEAF,) * 7), ("chain", (LEAF,), (LEAF,)), ("chain", LEAF, LEAF), ("chain", None),
    ("beside",), ("beside", ()), ("beside", LEAF), ("beside", [LEAF]), ("beside", (LEAF,) * 7),
    ("ahead",), ("ahead", ()), ("ahead", (LEAF,)), ("ahead", LEAF, LEAF), ("windows", 1, LEAF),
    ("windows", 1, 1), ("windows", 1, 1, 1, LEAF), ("windows", LEAF, 1, 1), ("marks", LEAF),
    ("marks", 1), ("marks", 1, 0, LEAF), ("spare", LEAF), ("spare", (LEAF, LEAF)),
    ("spare", LEAF, LEAF, LEAF), ("wanted", 1, LEAF), ("wanted", "few", 1, LEAF),
    ("wanted", 1, "few"), ("wanted", LEAF, 1, "few"), ("List", (1,)), ("list ", (1,)), ("", (1,)),
    ("lists", (1,)), ("turned", ADD, LEAF), ("add", 1), ("one",), ("below", 1), ("plan", LEAF),
    ("groups", 1, LEAF), ("split", 1, LEAF), (LEAF,), (LEAF, LEAF), (1, 2), ((), ()), (None, 1),
    (b"list", (1,)), (("list",), (1,)), (["list"], (1,)), ({}, (1,)), ("list", "1"), ("list", None)]


class IsPlanTest(unittest.TestCase):

    def tells(self, thing, expected):
        before = repr(thing)
        self.assertIs(is_plan(thing), expected, thing)
        self.assertEqual(repr(thing), before)

    def test_plans_of_each_word(self):
        self.assertEqual(len({plan[0] for plan in PLANS}), 16)
        for plan in PLANS:
            self.tells(plan, True)
            for place in WITH_PLAN:
                self.tells(place(plan), True)

    def test_each_number_at_and_beyond_its_bounds(self):
        for make, least, most in NUMBERS:
            for n in range(-3, 62):
                self.tells(make(n), (least is None or n >= least) and (most is None or n <= most))
            for bound in (least, most):
                if bound is not None:
                    for n in (bound - 1, bound, bound + 1):
                        fits = (least is None or n >= least) and (most is None or n <= most)
                        self.tells(make(n), fits)
            self.tells(make(GREAT), most is None)
            self.tells(make(-GREAT), least is None)

    def test_what_is_no_whole_number_in_the_place_of_each(self):
        for make, _, _ in NUMBERS:
            for thing in no_wholes():
                with self.subTest(plan=make(thing)):
                    self.assertIs(is_plan(make(thing)), False)

    def test_words(self):
        for make in WITH_WORD:
            for word in ("a", "z", "ab", "torn", "abcdefg", "abcdefgh", "zzzzzzzz", "list", "end"):
                self.tells(make(word), True)
            for word in NO_WORDS:
                with self.subTest(word=word):
                    self.assertIs(is_plan(make(word)), False)

    def test_how_many_plans_a_chain_and_a_beside_have(self):
        for many in range(10):
            self.tells(("chain", (LEAF,) * many), many <= 6)
            self.tells(("beside", (LEAF,) * many), 1 <= many <= 6)

    def test_rules_and_tests_in_plans(self):
        for rule in RULES:
            self.tells(("turn", rule, LEAF), True)
        for test in TESTS:
            self.tells(("sieve", test, LEAF), True)
            self.tells(("upto", test, LEAF), True)
        for part in [*NO_RULE_PARTS, *no_tuples()]:
            self.tells(("turn", (("add", 1), part), LEAF), False)
        for part in [*NO_TEST_PARTS, *no_tuples()]:
            self.tells(("sieve", (("below", 1), part), LEAF), False)
            self.tells(("upto", (part, ("below", 1)), LEAF), False)

    def test_what_is_no_plan_at_any_place(self):
        for thing in [*NO_PLANS, *no_tuples()]:
            with self.subTest(thing=thing):
                self.assertIs(is_plan(thing), False)
                for make in WITH_PLAN:
                    self.assertIs(is_plan(make(thing)), False)

    def test_what_is_no_plan_however_deep(self):
        plans = [deep_plan(20), wide_plan()]
        for plan in plans:
            self.tells(plan, True)
            for place, part in parts_of(plan):
                for wrong in ((), None, list(part), part + (LEAF,), part[:-1], (part,),
                              ("cut", 201, part), ("chain", [part])):
                    self.assertIs(is_plan(replaced(plan, place, wrong)), False)
        self.assertEqual(len(parts_of(plans[1])), 60)
        self.assertEqual(max(len(place) for place, _ in parts_of(plans[0])), 19)

    def test_things_that_are_no_tuples(self):
        for thing in [*no_tuples(), Listed([1]), list(LEAF), "list 0", *PLANS[0]]:
            self.assertIs(is_plan(thing), False)

    def test_a_list_in_the_place_of_a_tuple(self):
        def with_a_list(thing):
            """Each way to put one list in the place of a tuple."""
            yield list(thing)
            for at, part in enumerate(thing):
                if isinstance(part, tuple):
                    for changed in with_a_list(part):
                        yield (*thing[:at], changed, *thing[at + 1:])

        for plan in PLANS:
            for thing in with_a_list(plan):
                self.assertIs(is_plan(thing), False)

    def test_true_and_false_in_the_place_of_a_number(self):
        def with_a_truth(thing):
            if isinstance(thing, int):
                yield from (True, False)
            elif isinstance(thing, tuple):
                for at, part in enumerate(thing):
                    for changed in with_a_truth(part):
                        yield (*thing[:at], changed, *thing[at + 1:])

        for plan in PLANS:
            for thing in with_a_truth(plan):
                self.assertIs(is_plan(thing), False)

    def test_a_part_too_few_or_too_many(self):
        for plan in PLANS:
            for thing in (plan[:-1], plan + (1,), plan + ((),), plan + (LEAF,), plan[1:], plan[:1]):
                self.assertIs(is_plan(thing), False, thing)
