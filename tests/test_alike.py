"""The plan ahead of a step and the one behind it, grown upon like rows, answer
alike and draw alike, asking by asking, and close their sources in one order."""

import unittest

from giftstreams.ahead import Ahead
from giftstreams.errors import NoCopy
from giftstreams.groups import Groups
from giftstreams.nets import sources_of
from giftstreams.plans import grown
from giftstreams.splits import Reader
from giftstreams.steps import plainest, stepped, steps_of
from tests.model import Chance
from tests.plan_kit import ROWS, STEP_WORDS, Planner, handed_in
from tests.test_steps import BOTH, STEPS


class Run:
    """A plan that is grown upon rows of several sorts, and what they note."""

    def __init__(self, plan, started):
        self.log = []
        self.rows = handed_in(self.log)
        for row in self.rows:
            for _ in range(started):
                row.ask()
        del self.log[:]
        self.row = grown(plan, self.rows)

    def stands(self):
        """All that can be told of what the row hangs on."""
        kept = [(row.kept(), row.place()) for row in self.rows if isinstance(row, Reader)]
        return (
            self.log, kept, [row.is_over() for row in self.rows], self.row.is_over(),
            [source.drawn() for source in sources_of(self.row)])

    def do(self, act):
        if act == "look":
            return self.row.look()
        return self.row.ask()


class AlikeTest(unittest.TestCase):

    def check(self, one, other, chance, many=14):
        started = chance.below(3)
        runs = [Run(plan, started) for plan in (one, other)]
        self.assertEqual(runs[0].stands(), runs[1].stands())
        for _ in range(many):
            may_look = all(isinstance(run.row, Ahead) for run in runs)
            act = "look" if may_look and chance.below(2) else "ask"
            answers = [run.do(act) for run in runs]
            self.assertEqual(answers[0], answers[1])
            self.assertEqual(runs[0].stands(), runs[1].stands())
        for run in runs:
            run.row.close()
        self.assertEqual(runs[0].stands(), runs[1].stands())
        self.assertEqual(*[[row.is_closed() for row in run.rows] for run in runs])

    def check_closed_early(self, one, other, chance):
        self.check(one, other, chance, chance.below(3))

    def test_each_step_by_itself(self):
        for name, left, right in STEPS:
            for seed in range(3):
                with self.subTest(name, left=left):
                    self.check(left, right, Chance(seed))
        for left, right in BOTH:
            self.check(left, right, Chance(1))

    def test_each_step_of_plans_as_they_come(self):
        done = {}
        for seed in range(700):
            planner = Planner(seed + 5000, STEP_WORDS, ROWS)
            plan = planner.plan(3 + planner.chance.below(16))
            for step in steps_of(plan):
                with self.subTest(plan=plan, step=step):
                    other = stepped(plan, step)
                    self.check(plan, other, planner.chance)
                    self.check_closed_early(plan, other, planner.chance)
                done[step[1]] = done.get(step[1], 0) + 1
        # The tests above lean on this: each step was done often enough.
        self.assertEqual(len(done), 18)
        self.assertGreaterEqual(min(done.values()), 10)

    def test_the_plainest_plan(self):
        for seed in range(500):
            planner = Planner(seed + 9000, STEP_WORDS, ROWS)
            plan = planner.plan(3 + planner.chance.below(30))
            with self.subTest(plan=plan):
                other, _ = plainest(plan)
                self.check(plan, other, planner.chance)
                self.check_closed_early(plan, other, planner.chance)

    def test_copies_of_both_go_on_alike(self):
        for seed in range(300):
            planner = Planner(seed + 7000, STEP_WORDS, ROWS)
            plan = planner.plan(3 + planner.chance.below(16))
            other, _ = plainest(plan)
            started, many = planner.chance.below(2), planner.chance.below(4)
            with self.subTest(plan=plan):
                runs = [Run(one, started) for one in (plan, other)]
                told = []
                for run in runs:
                    answers = [run.row.ask() for _ in range(many)]
                    try:
                        copy = run.row.copied()
                    except NoCopy:
                        copy = None
                        answers.append("no copy")
                    if copy is not None:
                        answers += [copy.ask() for _ in range(5)]
                        answers.append([source.drawn() for source in sources_of(copy)])
                    answers += [run.row.ask() for _ in range(8)]
                    told.append((answers, run.stands()))
                self.assertEqual(told[0], told[1])

    def test_groups_above_are_alike(self):
        """Marks stay what they are: their groups can be asked, too."""
        for seed in range(200):
            planner = Planner(seed + 3000, STEP_WORDS, ROWS)
            plan = ("marks", 3, planner.plan(8))
            runs = [Run(one, 0) for one in (plan, plainest(plan)[0])]
            with self.subTest(plan=plan):
                for at in range(10):
                    answers = []
                    for run in runs:
                        self.assertIs(type(run.row), Groups)
                        answers.append(run.row.ask())
                        if answers[-1][0] == "gift" and at % 2:
                            group = run.row.group()
                            answers[-1] = (answers[-1], group.ask(), group.ask())
                    self.assertEqual(answers[0], answers[1])
                    self.assertEqual(runs[0].stands(), runs[1].stands())
