"""What is promised of all rows upon others, of every scene: the answers and
draws, holding, closing, copies."""

import unittest

from giftstreams.errors import Closed, Held
from tests.helpers import Plain, asked
from tests.scenes import END, STAGE_THREE, STAGE_TWO, ends, leaves, shape
from tests.spare_scenes import STAGE_SIX

SCENES = STAGE_TWO + STAGE_THREE + STAGE_SIX
MOMENTS = [(scene, many) for scene in SCENES for many in range(len(scene.answers) + 1)]


class Script(Plain):
    """Answers a list, then the end: for comparing with other sources."""

    def __init__(self, answers):
        Plain.__init__(self, [])
        self.answers = list(answers)

    def next_answer(self):
        return self.answers.pop(0) if self.answers else END


def drawn(lowest):
    return tuple(leaf.drawn() for leaf in lowest)


def all_beneath(row):
    return [one for lower in row.beneath() for one in [lower, *all_beneath(lower)]]


class SceneTest(unittest.TestCase):

    def goes_on(self, scene, row, lowest, many):
        """The row answers and draws from there on as the scene tells."""
        self.assertEqual(drawn(lowest), scene.draws[many])
        for at in range(many, len(scene.answers)):
            self.assertIs(row.is_over(), False)
            self.assertEqual(row.ask(), scene.answers[at])
            self.assertEqual(drawn(lowest), scene.draws[at + 1])
        for _ in range(2):
            self.assertIs(row.is_over(), True)
            self.assertEqual(row.ask(), END)
            self.assertEqual(drawn(lowest), scene.draws[-1])
        self.assertEqual((row.is_closed(), row.is_held()), (False, False))

    def refuse(self, refusal, acts):
        for act in acts:
            with self.assertRaises(refusal):
                act()


class AnswersTest(SceneTest):

    def test_answers_and_draws_till_behind_the_end(self):
        for scene in SCENES:
            with self.subTest(scene.name):
                row, lowest = scene.fresh()
                self.goes_on(scene, row, lowest, 0)

    def test_sources_are_asked_in_order_each_once(self):
        for scene in SCENES:
            with self.subTest(scene.name):
                log = []
                scene.fresh_asked(len(scene.answers) + 2, log)
                for number, many in enumerate(scene.draws[-1]):
                    name = f"s{number}"
                    own = [note for note in log if note[0] == name]
                    self.assertEqual(own, [(name, k) for k in range(many)])

    def test_a_source_is_over_just_where_it_told_its_last_answer(self):
        for scene, many in MOMENTS:
            with self.subTest(scene.name, asked=many):
                _, lowest = scene.fresh_asked(many)
                for leaf, script in zip(lowest, scene.scripts):
                    told = script[:leaf.drawn()]
                    self.assertIs(leaf.is_over(), told != [] and ends(told))

    def test_it_begins_where_the_ones_beneath_stand(self):
        for scene in SCENES:
            with self.subTest(scene.name):
                lowest = scene.sources()
                for leaf in lowest:
                    leaf.ask()
                row = scene.make(lowest)
                script = [script[1:] for script in scene.scripts]
                other = scene.make([Script(answers) for answers in script])
                answers = []
                while not other.is_over():
                    answers.append(other.ask())
                    self.assertEqual(row.ask(), answers[-1])
                self.assertEqual(asked(row, 2), [END, END])

    def test_ones_beneath_that_are_over_already_are_not_asked(self):
        for scene in SCENES:
            with self.subTest(scene.name):
                lowest = scene.sources()
                for leaf, script in zip(lowest, scene.scripts):
                    asked(leaf, len(script))
                counts = drawn(lowest)
                row = scene.make(lowest)
                self.assertEqual(asked(row, 3), [scene.of_ended, END, END])
                self.assertEqual(drawn(lowest), counts)


class HoldingTest(SceneTest):

    def test_all_beneath_are_held_and_refuse(self):
        for scene, many in MOMENTS:
            with self.subTest(scene.name, asked=many):
                row, lowest = scene.fresh_asked(many)
                for lower in all_beneath(row):
                    self.assertIs(lower.is_held(), True)
                    self.refuse(Held, [
                        lower.ask, lower.close, lower.copied, lambda: Plain([lower])])
                self.assertIs(row.is_held(), False)
                self.goes_on(scene, row, lowest, many)

    def test_beneath_is_the_askers_own_list(self):
        for scene in SCENES:
            with self.subTest(scene.name):
                row, lowest = scene.fresh()
                rows = row.beneath()
                self.assertEqual(leaves(row), lowest)
                row.beneath().append(None)
                del row.beneath()[:]
                self.assertEqual(row.beneath(), rows)
                self.goes_on(scene, row, lowest, 0)


class ClosingTest(SceneTest):

    def test_closing_reaches_each_source_once_from_the_left(self):
        for scene, many in MOMENTS:
            with self.subTest(scene.name, asked=many):
                log = []
                row, lowest = scene.fresh_asked(many, log)
                whole = [row, *all_beneath(row)]
                over = [one.is_over() for one in whole]
                del log[:]
                self.assertIsNone(row.close())
                closings = [(f"s{number}", "closed") for number in range(len(lowest))]
                self.assertEqual(log, closings)
                self.assertTrue(all(one.is_closed() for one in whole))
                self.assertEqual([one.is_over() for one in whole], over)
                self.refuse(Closed, [row.ask, row.close, row.copied, lambda: Plain([row])])
                self.refuse(Held, [lower.close for lower in all_beneath(row)])
                self.assertEqual(log, closings)
                self.assertEqual(drawn(lowest), scene.draws[many])

    def test_closing_closes_no_other_row(self):
        for scene in SCENES:
            with self.subTest(scene.name):
                row, _ = scene.fresh()
                log = []
                other, lowest = scene.fresh(log)
                row.close()
                self.assertEqual(log, [])
                self.assertFalse(any(one.is_closed() for one in [other, *all_beneath(other)]))
                self.goes_on(scene, other, lowest, 0)


class CopiesTest(SceneTest):

    def is_a_copy(self, other, row):
        self.assertEqual(shape(other), shape(row))
        self.assertEqual((other.is_closed(), other.is_held()), (False, False))
        self.assertEqual(other.is_over(), row.is_over())
        for mine, theirs in zip(all_beneath(other), all_beneath(row)):
            self.assertIsNot(mine, theirs)
            self.assertEqual((mine.is_closed(), mine.is_held()), (False, True))
            self.assertEqual(mine.is_over(), theirs.is_over())

    def test_a_copy_goes_on_by_itself(self):
        for scene, many in MOMENTS:
            with self.subTest(scene.name, asked=many):
                row, lowest = scene.fresh_asked(many)
                other = row.copied()
                self.is_a_copy(other, row)
                self.goes_on(scene, other, leaves(other), many)
                self.goes_on(scene, row, lowest, many)

    def test_the_copied_one_goes_on_first_and_is_closed(self):
        for scene, many in MOMENTS:
            with self.subTest(scene.name, asked=many):
                row, lowest = scene.fresh_asked(many)
                other = row.copied()
                self.goes_on(scene, row, lowest, many)
                row.close()
                self.assertFalse(any(one.is_closed() for one in [other, *all_beneath(other)]))
                self.goes_on(scene, other, leaves(other), many)

    def test_by_turns(self):
        for scene, many in MOMENTS:
            with self.subTest(scene.name, asked=many):
                row, lowest = scene.fresh_asked(many)
                other = row.copied()
                for at in range(many, len(scene.answers)):
                    self.assertEqual([row.ask(), other.ask()], [scene.answers[at]] * 2)
                    self.assertEqual(drawn(lowest), scene.draws[at + 1])
                    self.assertEqual(drawn(leaves(other)), scene.draws[at + 1])

    def test_a_copy_of_a_copy(self):
        for scene, many in MOMENTS:
            with self.subTest(scene.name, asked=many):
                first, lowest = scene.fresh_asked(many)
                second = first.copied()
                second.ask()
                third = second.copied()
                self.is_a_copy(third, second)
                second.close()
                at = min(many + 1, len(scene.answers))
                self.goes_on(scene, third, leaves(third), at)
                self.goes_on(scene, first, lowest, many)

    def test_the_sources_functions_are_asked_for_the_same_by_each(self):
        for scene, many in MOMENTS:
            with self.subTest(scene.name, asked=many):
                log = []
                row, lowest = scene.fresh_asked(many, log)
                other = row.copied()
                del log[:]
                asked(row, len(scene.answers))
                by_row = list(log)
                del log[:]
                asked(other, len(scene.answers))
                self.assertEqual(log, by_row)
                del log[:]
                other.close()
                self.assertEqual(log, [(f"s{at}", "closed") for at in range(len(lowest))])

    def test_copying_asks_and_closes_nobody(self):
        for scene, many in MOMENTS:
            with self.subTest(scene.name, asked=many):
                log = []
                row, lowest = scene.fresh_asked(many, log)
                before = list(log)
                row.copied().copied()
                self.assertEqual(log, before)
                self.assertEqual(drawn(lowest), scene.draws[many])
