"""Steps of plans: which there are, what they lead to, what is refused."""

import itertools
import unittest

from giftstreams.errors import NoPlan, NoStep
from giftstreams.plans import is_plan
from giftstreams.steps import plainest, stepped, steps_of
from tests.helpers import Thing
from tests.plan_kit import (
    LEAF, PLANS, STEP_WORDS, Planner, deep_plan, parts_of, replaced, wide_plan)
from tests.test_plans import NO_PLANS, WITH_PLAN
from tests.test_rules import no_tuples

F = (("add", 2), ("one",))
G = (("times", 3),)
T = (("below", 7), ("rest", 2, 1))
U = (("rest", 3, 0),)
P = ("broken", (4, 1), "torn")
Q = ("count", 0, 1, 5)
ROW = ("row", 3)

# Of each step its name, its left side and its right side.
STEPS = [
    ("turns", ("turn", F, ("turn", G, P)), ("turn", G + F, P)),
    ("turns", ("turn", (), ("turn", G, ROW)), ("turn", G, ROW)),
    ("turns", ("turn", F, ("turn", (), ROW)), ("turn", F, ROW)),
    ("turns", ("turn", (), ("turn", (), P)), ("turn", (), P)),
    ("sieves", ("sieve", T, ("sieve", U, P)), ("sieve", U + T, P)),
    ("sieves", ("sieve", (), ("sieve", U, P)), ("sieve", U, P)),
    ("uptos", ("upto", T, ("upto", U, P)), ("upto", U + T, P)),
    ("uptos", ("upto", T, ("upto", (), P)), ("upto", T, P)),
    ("cuts", ("cut", 3, ("cut", 5, P)), ("cut", 3, P)),
    ("cuts", ("cut", 5, ("cut", 3, P)), ("cut", 3, P)),
    ("cuts", ("cut", 4, ("cut", 4, P)), ("cut", 4, P)),
    ("cuts", ("cut", 0, ("cut", 200, P)), ("cut", 0, P)),
    ("lefts", ("left", 3, ("left", 5, P)), ("left", 8, P)),
    ("lefts", ("left", 0, ("left", 0, P)), ("left", 0, P)),
    ("lefts", ("left", 200, ("left", 0, P)), ("left", 200, P)),
    ("lefts", ("left", 1, ("left", 199, P)), ("left", 200, P)),
    ("aheads", ("ahead", ("ahead", P)), ("ahead", P)),
    ("leftcut", ("left", 3, ("cut", 5, P)), ("cut", 2, ("left", 3, P))),
    ("leftcut", ("left", 0, ("cut", 1, P)), ("cut", 1, ("left", 0, P))),
    ("leftcut", ("left", 199, ("cut", 200, P)), ("cut", 1, ("left", 199, P))),
    ("cutturn", ("cut", 3, ("turn", F, P)), ("turn", F, ("cut", 3, P))),
    ("cutturn", ("cut", 0, ("turn", (), P)), ("turn", (), ("cut", 0, P))),
    ("leftturn", ("left", 3, ("turn", F, P)), ("turn", F, ("left", 3, P))),
    ("sieveturn", ("sieve", T, ("turn", F, P)), ("turn", F, ("sieve", (("after", F, T),), P))),
    ("sieveturn", ("sieve", (), ("turn", (), P)), ("turn", (), ("sieve", (("after", (), ()),), P))),
    ("uptoturn", ("upto", T, ("turn", F, P)), ("turn", F, ("upto", (("after", F, T),), P))),
    ("chainone", ("chain", (P,)), P),
    ("chainone", ("chain", (("row", 4),)), ("row", 4)),
    ("chainchain", ("chain", (P, ("chain", (Q, ROW)), LEAF)), ("chain", (P, Q, ROW, LEAF))),
    ("chainchain", ("chain", (("chain", (Q, ROW)), LEAF)), ("chain", (Q, ROW, LEAF))),
    ("chainchain", ("chain", (LEAF, ("chain", (Q, ROW)))), ("chain", (LEAF, Q, ROW))),
    ("chainchain", ("chain", (LEAF, ("chain", ()))), ("chain", (LEAF,))),
    ("chainchain", ("chain", (("chain", (Q,)), LEAF)), ("chain", (Q, LEAF))),
    ("chainchain", ("chain", (LEAF, ("chain", (Q,) * 5))), ("chain", (LEAF, Q, Q, Q, Q, Q))),
    ("chainchain", ("chain", (P, P, P, ("chain", (Q, LEAF)), P)), ("chain", (P, P, P, Q, LEAF, P))),
    ("chainchain", ("chain", (P, P, P, P, P, ("chain", ()))), ("chain", (P, P, P, P, P))),
    ("turnchain", ("turn", F, ("chain", (P, Q))), ("chain", (("turn", F, P), ("turn", F, Q)))),
    ("turnchain", ("turn", F, ("chain", (P,))), ("chain", (("turn", F, P),))),
    ("turnchain", ("turn", F, ("chain", ())), ("chain", ())),
    ("sievechain", ("sieve", T, ("chain", (P, Q))), ("chain", (("sieve", T, P), ("sieve", T, Q)))),
    ("sievechain", ("sieve", T, ("chain", ())), ("chain", ())),
    ("sievechain", ("sieve", T, ("chain", (Q,) * 6)), ("chain", (("sieve", T, Q),) * 6)),
    ("cutbeside", ("cut", 3, ("beside", (P, Q))), ("beside", (("cut", 3, P), ("cut", 3, Q)))),
    ("cutbeside", ("cut", 0, ("beside", (P,))), ("beside", (("cut", 0, P),))),
    ("besideone", ("beside", (P,)), ("turn", (("one",),), P)),
    ("windowsone", ("windows", 1, 1, P), ("turn", (("one",),), P))]

# Sides that have two steps at once: a chain of one chain.
BOTH = [
    (("chain", (("chain", (P, Q)),)), ("chain", (P, Q))),
    (("chain", (("chain", ()),)), ("chain", ())),
    (("chain", (("chain", (P,)),)), ("chain", (P,)))]

# No left sides: what lies just beside one.
NO_STEPS = [
    P, Q, ROW, LEAF, ("turn", F, P), ("turn", F, ("sieve", T, P)), ("turn", F, ("upto", T, P)),
    ("turn", F, ("cut", 3, P)), ("turn", F, ("left", 3, P)), ("turn", F, ("ahead", P)),
    ("turn", F, ("beside", (P, Q))), ("turn", F, ("windows", 2, 1, P)), ("turn", F, ("marks", 2, P)),
    ("turn", F, ("spare", P, Q)), ("turn", F, ("wanted", 2, "few", P)), ("turn", F, ROW),
    ("sieve", T, P), ("sieve", T, ("upto", U, P)), ("sieve", T, ("cut", 3, P)),
    ("sieve", T, ("left", 3, P)), ("sieve", T, ("ahead", P)), ("sieve", T, ("beside", (P, Q))),
    ("sieve", T, ("spare", P, Q)), ("sieve", T, ("windows", 1, 2, P)),
    ("upto", T, P), ("upto", T, ("sieve", U, P)), ("upto", T, ("chain", (P, Q))),
    ("upto", T, ("chain", ())), ("upto", T, ("cut", 3, P)), ("upto", T, ("beside", (P, Q))),
    ("cut", 3, P), ("cut", 3, ("left", 5, P)), ("cut", 3, ("sieve", T, P)),
    ("cut", 3, ("upto", T, P)), ("cut", 3, ("chain", (P, Q))), ("cut", 3, ("chain", ())),
    ("cut", 3, ("ahead", P)), ("cut", 0, ("spare", P, Q)), ("cut", 3, ("marks", 1, P)),
    ("left", 3, P), ("left", 3, ("cut", 3, P)), ("left", 4, ("cut", 3, P)),
    ("left", 0, ("cut", 0, P)), ("left", 200, ("cut", 200, P)), ("left", 1, ("cut", 0, P)),
    ("left", 1, ("left", 200, P)), ("left", 101, ("left", 100, P)), ("left", 200, ("left", 200, P)),
    ("left", 3, ("sieve", T, P)), ("left", 3, ("upto", T, P)), ("left", 3, ("chain", (P, Q))),
    ("left", 3, ("beside", (P, Q))), ("left", 3, ("windows", 2, 2, P)),
    ("ahead", P), ("ahead", ("turn", F, P)), ("ahead", ("spare", ("ahead", P), ("ahead", P))),
    ("chain", ()), ("chain", (P, Q)), ("chain", (P,) * 6), ("chain", (("ahead", P), Q)),
    ("chain", (("spare", ("chain", ()), Q), Q)), ("chain", (P, ("chain", (Q,) * 6))),
    ("chain", (P, P, ("chain", (Q,) * 5))), ("chain", (P, P, P, P, P, ("chain", (P, Q)))),
    # The first chain in it doesn't find room, the second one is not asked for.
    ("chain", (P, ("chain", (Q,) * 6), ("chain", ()))),
    ("chain", (("chain", (Q,) * 6), P, ("chain", (P, Q)))),
    ("beside", (P, Q)), ("beside", (P,) * 6), ("beside", (("ahead", P), ("turn", F, P))),
    ("windows", 1, 2, P), ("windows", 2, 1, P), ("windows", 2, 2, P), ("windows", 20, 1, P),
    ("windows", 1, 20, P), ("marks", 1, P), ("marks", 1, ("marks", 1, P)), ("spare", P, Q),
    ("spare", ("spare", P, Q), Q), ("wanted", 0, "few", P), ("wanted", 2, "few", ("cut", 1, P)),
    ("wanted", 2, "few", ("wanted", 3, "few", P))]

NAMES = {
    "turns", "sieves", "uptos", "cuts", "lefts", "aheads", "leftcut", "cutturn", "leftturn",
    "sieveturn", "uptoturn", "chainone", "chainchain", "turnchain", "sievechain", "cutbeside",
    "besideone", "windowsone"}


def at_top(plan):
    return [name for place, name in steps_of(plan) if place == ()]


class EachStepTest(unittest.TestCase):

    def test_at_the_top(self):
        self.assertEqual({name for name, _, _ in STEPS}, NAMES)
        for name, left, right in STEPS:
            with self.subTest(name, left=left):
                before = repr(left)
                self.assertEqual(at_top(left), [name])
                self.assertEqual(stepped(left, ((), name)), right)
                self.assertIs(is_plan(right), True)
                self.assertEqual(repr(left), before)

    def test_deeper(self):
        for name, left, right in STEPS:
            for make in WITH_PLAN:
                for inner_make in WITH_PLAN[::4]:
                    plan = make(inner_make(left))
                    place = [place for place, part in parts_of(plan) if part == left][0]
                    with self.subTest(name, plan=plan):
                        self.assertIn((place, name), steps_of(plan))
                        self.assertEqual(
                            stepped(plan, (place, name)), replaced(plan, place, right))

    def test_all_else_stays_as_it_was(self):
        for name, left, right in STEPS:
            for at in range(3):
                plans = [("ahead", LEAF), ("marks", 2, ("row", 1))]
                plans.insert(at, ("spare", Q, left))
                plan = ("beside", tuple(plans))
                plans[at] = ("spare", Q, right)
                self.assertEqual(stepped(plan, ((at, 1), name)), ("beside", tuple(plans)))

    def test_chains_of_one_chain_have_two(self):
        for left, right in BOTH:
            self.assertEqual(at_top(left), ["chainchain", "chainone"])
            self.assertEqual(stepped(left, ((), "chainchain")), right)
            self.assertEqual(stepped(left, ((), "chainone")), right)

    def test_just_beside_a_left_side_there_is_none(self):
        for plan in NO_STEPS:
            with self.subTest(plan=plan):
                self.assertIs(is_plan(plan), True)
                self.assertEqual(at_top(plan), [])
                for name in NAMES:
                    with self.assertRaises(NoStep):
                        stepped(plan, ((), name))

    def test_bounds_of_left_and_cut_numbers(self):
        for n, m in itertools.product((0, 1, 2, 99, 100, 101, 199, 200), repeat=2):
            self.assertEqual(at_top(("left", n, ("left", m, P))), ["lefts"] if n + m <= 200 else [])
            self.assertEqual(at_top(("left", n, ("cut", m, P))), ["leftcut"] if n < m else [])
            self.assertEqual(stepped(("cut", n, ("cut", m, P)), ((), "cuts")), ("cut", min(n, m), P))

    def test_how_many_plans_chains_have_together(self):
        for many in range(6):
            for inner in range(7):
                for at in range(many + 1):
                    plans = [P] * many
                    plans.insert(at, ("chain", (Q,) * inner))
                    together = plans[:at] + [Q] * inner + plans[at + 1:]
                    plan = ("chain", tuple(plans))
                    self.assertEqual("chainchain" in at_top(plan), len(together) <= 6)
                    if len(together) <= 6:
                        told = stepped(plan, ((), "chainchain"))
                        self.assertEqual(told, ("chain", tuple(together)))

    def test_the_first_one_of_several_chains(self):
        plan = ("chain", (P, ("chain", (Q,)), ("chain", (LEAF, LEAF))))
        self.assertEqual(
            stepped(plan, ((), "chainchain")), ("chain", (P, Q, ("chain", (LEAF, LEAF)))))
        plan = ("chain", (("chain", (("chain", ()),)), P))
        self.assertEqual(stepped(plan, ((), "chainchain")), ("chain", (("chain", ()), P)))

    def test_the_sizes_of_windows(self):
        for size, step in itertools.product((1, 2, 19, 20), repeat=2):
            expected = ["windowsone"] if size == step == 1 else []
            self.assertEqual(at_top(("windows", size, step, P)), expected)


class StepsOfTest(unittest.TestCase):

    def test_sorted_as_python_sorts_tuples(self):
        plan = ("chain", (
            ("chain", (("turn", F, ("turn", G, ("turn", F, P))),)),
            ("cut", 1, ("beside", (("windows", 1, 1, P), ("ahead", ("ahead", Q)))))))
        self.assertEqual(steps_of(plan), [
            ((), "chainchain"), ((0,), "chainone"), ((0, 0), "turns"), ((0, 0, 0), "turns"),
            ((1,), "cutbeside"), ((1, 0, 0), "windowsone"), ((1, 0, 1), "aheads")])

    def test_the_numbers_of_inner_plans(self):
        step = ("ahead", ("ahead", P))
        plans = [LEAF] * 6
        for at in range(6):
            self.assertEqual(steps_of(("beside", (*plans[:at], step, *plans[at + 1:]))),
                             [((at,), "aheads")])
        self.assertEqual(steps_of(("spare", P, step)), [((1,), "aheads")])
        self.assertEqual(steps_of(("spare", step, P)), [((0,), "aheads")])
        self.assertEqual(steps_of(("wanted", 1, "few", step)), [((0,), "aheads")])
        self.assertEqual(steps_of(("windows", 2, 1, step)), [((0,), "aheads")])

    def test_sorted_none_twice_and_all_of_them(self):
        for seed in range(300):
            planner = Planner(seed, STEP_WORDS, 5)
            plan = planner.plan(2 + planner.chance.below(25))
            with self.subTest(plan=plan):
                steps = steps_of(plan)
                self.assertEqual(steps, sorted(steps))
                self.assertEqual(len(steps), len(set(steps)))
                for place, part in parts_of(plan):
                    here = [name for found, name in steps if found == place]
                    self.assertEqual(here, at_top(part))

    def test_the_list_is_the_askers_own(self):
        plan = ("turn", F, ("turn", G, P))
        told = steps_of(plan)
        self.assertIs(type(told), list)
        self.assertEqual([type(step) for step in told], [tuple])
        told.clear()
        self.assertEqual(steps_of(plan), [((), "turns")])
        _, done = plainest(plan)
        done.clear()
        self.assertEqual(plainest(plan)[1], [((), "turns")])

    def test_none_of_a_plan_that_has_none(self):
        for plan in (P, ("chain", ()), ("spare", P, ("cut", 3, Q)), ROW):
            self.assertEqual(steps_of(plan), [])
            self.assertEqual(plainest(plan), (plan, []))


class RefusedTest(unittest.TestCase):

    def test_no_plan_of_anything(self):
        for thing in [*NO_PLANS, *no_tuples(), ("turn", F, ("turn", [("add", 2)], P))]:
            with self.subTest(thing=thing):
                for act in (lambda: steps_of(thing), lambda: plainest(thing)):
                    with self.assertRaises(NoPlan):
                        act()
                for step in (((), "turns"), ((), "none"), None, [], 0, ((0,), "turns")):
                    with self.assertRaises(NoPlan):
                        stepped(thing, step)

    def test_no_step_of_anything(self):
        plan = ("beside", (LEAF, ("turn", F, ("turn", G, P)), ("windows", 1, 1, ("ahead", Q))))
        self.assertEqual(steps_of(plan), [((1,), "turns"), ((2,), "windowsone")])
        before = repr(plan)
        for thing in [
                *no_tuples(), (), ((1,),), ("turns",), ((1,), "turns", 1), ("turns", (1,)),
                [(1,), "turns"], ([1], "turns"), ((1,), ["turns"]), ((1,), b"turns"), (1, "turns"),
                ("1", "turns"), ((True,), "turns"), (("1",), "turns"), ((None,), "turns"),
                (((1,),), "turns"), ((1, 0), "turns"), ((), "turns"), ((0,), "turns"),
                ((2,), "turns"), ((3,), "turns"), ((-2,), "turns"), ((1,), "windowsone"),
                ((1,), "sieves"), ((1,), "Turns"), ((1,), "turns "), ((1,), "turn"), ((1,), ""),
                ((1,), None), ((1,), 0), ((1,), ("turns",)), (None, "turns"), ((2, 0), "aheads"),
                ((2, 0, 0, 0), "turns"), ((0, 0), "turns"), ((10 ** 29,), "turns"),
                ({1: 1}, "turns"), (Thing(), "turns"), ((Thing(),), "turns"), ((1,), Thing()),
                (((1,), "turns"),), (range(1, 2), "turns")]:
            with self.subTest(thing=thing):
                with self.assertRaises(NoStep):
                    stepped(plan, thing)
        self.assertEqual(repr(plan), before)

    def test_true_and_false_in_the_place_of_numbers(self):
        plan = ("beside", (("beside", (P,)), ("ahead", ("ahead", P))))
        self.assertEqual(steps_of(plan), [((0,), "besideone"), ((1,), "aheads")])
        for place in ((False,), (True,)):
            for name in NAMES:
                with self.assertRaises(NoStep):
                    stepped(plan, (place, name))

    def test_a_step_of_another_plan(self):
        for name, left, _ in STEPS:
            for other, plan, _ in STEPS:
                if ((), name) not in steps_of(plan):
                    with self.assertRaises(NoStep):
                        stepped(plan, ((), name))


class PlainestTest(unittest.TestCase):

    def by_hand(self, plan):
        """The first step done each time till there is none."""
        done = []
        while steps_of(plan):
            done.append(steps_of(plan)[0])
            plan = stepped(plan, done[-1])
        return plan, done

    def check(self, plan):
        told = plainest(plan)
        self.assertIs(type(told), tuple)
        self.assertIs(type(told[1]), list)
        self.assertEqual(told, self.by_hand(plan))
        self.assertIs(is_plan(told[0]), True)
        self.assertEqual(plainest(told[0]), (told[0], []))

    def test_the_first_step_each_time(self):
        plan = ("cut", 2, ("turn", F, ("turn", G, ("chain", (("left", 1, ("cut", 5, P)),)))))
        self.assertEqual(plainest(plan), (
            ("turn", G + F, ("cut", 2, ("left", 1, P))),
            [((), "cutturn"), ((0,), "cutturn"), ((), "turns"), ((0, 0), "chainone"),
             ((0, 0), "leftcut"), ((0,), "cuts")]))
        self.check(plan)

    def test_step_by_step(self):
        plan = ("sieve", T, ("chain", (("turn", F, P), ("chain", (Q,)))))
        self.assertEqual(plainest(plan), (
            ("chain", (("turn", F, ("sieve", (("after", F, T),), P)), ("sieve", T, Q))),
            [((), "sievechain"), ((0,), "sieveturn"), ((1,), "sievechain"), ((), "chainchain")]))
        self.check(plan)

    def test_of_each_step_and_of_all_plans(self):
        for plan in [*PLANS, *[left for _, left, _ in STEPS], *[left for left, _ in BOTH], *NO_STEPS]:
            with self.subTest(plan=plan):
                self.check(plan)

    def test_as_it_comes(self):
        for seed in range(300):
            planner = Planner(seed + 1000, STEP_WORDS, 5)
            plan = planner.plan(2 + planner.chance.below(40))
            with self.subTest(plan=plan):
                before = repr(plan)
                self.check(plan)
                self.assertEqual(repr(plan), before)

    def test_sixty_parts(self):
        six_by_six = ("chain", (("chain", (LEAF,) * 6),) * 6)
        sixes = ("beside", (("beside", (LEAF,) * 6),) * 6)
        for lowest, uppers in (
                (six_by_six, [("turn", F), ("sieve", T)]), (six_by_six, [("sieve", T), ("turn", F)]),
                (sixes, [("cut", 9), ("turn", F)]), (wide_plan(), [])):
            plan = lowest
            at = 0
            while uppers and len(parts_of(plan)) < 60:
                plan = (*uppers[at % 2], plan)
                at += 1
            self.assertEqual(len(parts_of(plan)), 60)
            self.check(plan)
        for words in (["turn", "sieve"], ["upto", "turn"], ["cut", "left", "turn", "cut"]):
            things = {"turn": F, "sieve": T, "upto": T, "cut": 9, "left": 2}
            plan = LEAF
            for at in range(19):
                plan = (words[at % len(words)], things[words[at % len(words)]], plan)
            self.check(plan)
        self.check(deep_plan(20))

    def test_what_was_told_may_be_handed_in_again(self):
        plan = LEAF
        for at in range(19):
            plan = ("turn", F, plan) if at % 2 else ("upto", T, plan)
        told, steps = plainest(plan)
        self.assertGreater(len(steps), 20)
        self.assertIs(is_plan(told), True)
        self.assertEqual(steps_of(told), [])
        self.assertEqual(steps_of(("ahead", ("ahead", told))), [((), "aheads")])
