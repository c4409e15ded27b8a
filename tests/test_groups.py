"""Groups, and the group that each of them tells as a row."""

import itertools
import unittest

from giftstreams.errors import Closed, Held, NoCopy, NoGroup
from giftstreams.groups import Group, Groups
from giftstreams.joined import Chained
from giftstreams.sources import Listed
from tests.helpers import Plain, asked, gifts_forever, scripted, stands
from tests.likeness import Likeness, for_good, iterated

END = ("end",)
TORN = ("fault", "torn")


def gifts(*things):
    return [("gift", thing) for thing in things]


def tens(thing):
    return thing // 10


SCRIPTS = [
    [*gifts(11, 12, 13, 21, 31, 32), END],
    [*gifts(11, 12, -11, -12, -13), TORN],
    [*gifts(11, 21, 12), END],
    [*gifts(11), TORN]]

# "groups" asks the groups, "group" the newest group.
ACTS = ("groups", "group")


class AlikeGroups:
    """The same by Python's own groups."""

    def __init__(self, script):
        self.counts = [0]
        source = iterated(script, self.counts, 0)
        self.pairs = itertools.groupby(source, tens)
        self.groups = Likeness(for_good(self.each()))
        self.group = None

    def each(self):
        for mark, group in self.pairs:
            self.group = Likeness(group)
            yield mark

    def ask(self, act):
        if act == "groups":
            return self.groups.ask()
        if self.group is None:
            return None
        if self.groups.over:
            return END
        answer = self.group.ask()
        if answer[0] == "fault":
            self.groups.over = True
        return answer


def act_on(groups, act):
    """What is answered; None, where no group was begun."""
    if act == "groups":
        return groups.ask()
    try:
        return groups.group().ask()
    except NoGroup:
        return None


class GroupsTest(unittest.TestCase):

    def test_askings_of_groups_and_group_in_any_order(self):
        for script in SCRIPTS:
            for acts in itertools.product(ACTS, repeat=8):
                with self.subTest(script=script, acts=acts):
                    source = scripted(script, [])
                    groups, alike = Groups(source, tens), AlikeGroups(script)
                    for act in acts:
                        self.assertEqual(act_on(groups, act), alike.ask(act))
                        self.assertEqual([source.drawn()], alike.counts)

    def test_the_marks_function_once_for_each_gift_drawn_in_order(self):
        for acts in itertools.product(ACTS, repeat=7):
            with self.subTest(acts=acts):
                log = []
                source = scripted(SCRIPTS[0], [])
                groups = Groups(source, lambda g: log.append(g) or tens(g))
                for act in acts:
                    act_on(groups, act)
                    drawn = [answer[1] for answer in SCRIPTS[0][:source.drawn()] if answer != END]
                    self.assertEqual(log, drawn)

    def test_the_first_asking_draws_one_gift(self):
        source = Listed([5, 5, 6])
        groups = Groups(source, lambda g: g)
        self.assertEqual(source.drawn(), 0)
        self.assertEqual(groups.ask(), ("gift", 5))
        self.assertEqual(source.drawn(), 1)

    def test_passing_over_what_is_left_read_in_whole_in_part_not_at_all(self):
        for read in range(6):
            with self.subTest(read=read):
                source = Listed([-3, -3, -3, 4, 4])
                groups = Groups(source, lambda g: g)
                groups.ask()
                answers = asked(groups.group(), read)
                self.assertEqual(answers, (gifts(-3, -3, -3) + [END] * 6)[:read])
                self.assertEqual(groups.ask(), ("gift", 4))
                self.assertEqual(source.drawn(), 4)
                self.assertEqual(asked(groups.group(), 3), [*gifts(4, 4), END])
                self.assertEqual(groups.ask(), END)
                self.assertEqual(source.drawn(), 6)

    def test_one_mark_again_behind_another_is_a_group_of_its_own(self):
        groups = Groups(Listed([1, -1, 1, 1, -1]), abs)
        self.assertEqual(asked(groups, 2), [("gift", 1), END])
        groups = Groups(Listed([1, -1, 1, 1, -1]), lambda g: -g)
        self.assertEqual(asked(groups, 5), [*gifts(-1, 1, -1, 1), END])

    def test_group_is_the_same_one_as_often_as_asked(self):
        groups = Groups(Listed([1, 1, 2]), lambda g: g)
        groups.ask()
        first = groups.group()
        self.assertIs(type(first), Group)
        self.assertEqual(stands(first), (False, False, False, []))
        self.assertIs(groups.group(), first)
        asked(first, 3)
        self.assertIs(groups.group(), first)
        groups.ask()
        second = groups.group()
        self.assertIsNot(second, first)
        self.assertIs(groups.group(), second)
        groups.ask()
        self.assertIs(groups.is_over(), True)
        self.assertIs(groups.group(), second)
        self.assertEqual((first.groups(), second.groups()), (groups, groups))

    def test_no_group_before_one_was_begun(self):
        for script in ([END], [TORN]):
            groups = Groups(scripted(script, []), lambda g: g)
            for _ in range(3):
                with self.assertRaises(NoGroup):
                    groups.group()
                groups.ask()

    def test_no_group_behind_held_and_closed(self):
        for begun in (False, True):
            free, held, closed, both = [Groups(Listed([1]), lambda g: g) for _ in range(4)]
            if begun:
                for groups in (free, held, closed, both):
                    groups.ask()
            Plain([held])
            closed.close()
            Plain([both]).close()
            for groups, refusal in ((held, Held), (closed, Closed), (both, Held)):
                with self.assertRaises(refusal):
                    groups.group()
            if begun:
                self.assertEqual(free.group().ask(), ("gift", 1))

    def test_many_gifts_in_one_group(self):
        source = Listed([7] * 60)
        groups = Groups(source, lambda g: g)
        self.assertEqual(asked(groups, 2), [("gift", 7), END])
        self.assertEqual(source.drawn(), 61)


class GroupTest(unittest.TestCase):

    def begun(self, script, log=None):
        groups = Groups(scripted(script, [] if log is None else log), tens)
        groups.ask()
        return groups, groups.group()

    def test_the_first_gift_without_drawing_each_later_one_with_one_draw(self):
        groups, group = self.begun([*gifts(11, 12, 13, 21), END])
        source = groups.beneath()[0]
        drawn = []
        for answer in [*gifts(11, 12, 13), END, END]:
            self.assertEqual(group.ask(), answer)
            drawn.append(source.drawn())
        self.assertEqual(drawn, [1, 2, 3, 4, 4])

    def test_the_next_group_begins_with_the_kept_gift_without_drawing(self):
        groups, group = self.begun([*gifts(11, 21, 22), END])
        source = groups.beneath()[0]
        self.assertEqual(asked(group, 2), [*gifts(11), END])
        self.assertEqual((group.is_over(), groups.is_over()), (True, False))
        self.assertEqual(groups.ask(), ("gift", 2))
        self.assertEqual(source.drawn(), 2)
        self.assertEqual(asked(groups.group(), 2), gifts(21, 22))
        self.assertEqual(source.drawn(), 3)

    def test_an_end_or_a_fault_that_a_group_meets_ends_the_groups(self):
        for last in (END, TORN):
            log = []
            groups, group = self.begun([*gifts(11), last], log)
            self.assertEqual(group.ask(), ("gift", 11))
            self.assertEqual((group.is_over(), groups.is_over()), (False, False))
            self.assertEqual(group.ask(), last)
            self.assertEqual((group.is_over(), groups.is_over()), (True, True))
            self.assertEqual([group.ask(), groups.ask(), group.ask()], [END] * 3)
            self.assertEqual(log, [("s", 0), ("s", 1)])
            self.assertIs(groups.group(), group)

    def test_over_from_when_a_next_one_is_begun(self):
        for read in range(4):
            groups, group = self.begun([*gifts(11, 12, 13, 21), END])
            asked(group, read)
            self.assertIs(group.is_over(), False)
            groups.ask()
            drawn = groups.beneath()[0].drawn()
            self.assertIs(group.is_over(), True)
            self.assertEqual(asked(group, 2), [END, END])
            self.assertEqual(groups.beneath()[0].drawn(), drawn)
            self.assertEqual(groups.group().ask(), ("gift", 21))

    def test_over_when_its_groups_are_over(self):
        for last in (END, TORN):
            groups, group = self.begun([*gifts(11, 12), last])
            self.assertEqual(groups.ask(), last)
            self.assertIs(group.is_over(), True)
            self.assertEqual(asked(group, 2), [END, END])

    def test_over_when_its_groups_are_ended_by_their_holder(self):
        groups, group = self.begun([*gifts(11, 12), END])
        Plain([groups])
        groups.end_it()
        self.assertIs(group.is_over(), True)
        self.assertEqual(group.ask(), END)

    def test_over_when_its_groups_are_closed(self):
        log = []
        groups, group = self.begun([*gifts(11, 12), END], log)
        groups.close()
        self.assertEqual((group.is_over(), group.is_closed(), groups.is_over()), (True, False, False))
        self.assertEqual(asked(group, 2), [END, END])
        self.assertEqual(log, [("s", 0), ("s", "closed")])
        groups, group = self.begun([*gifts(11, 12), END])
        Plain([Plain([groups])]).close()
        self.assertEqual((group.is_over(), group.is_closed()), (True, False))

    def test_a_group_that_is_closed_is_passed_over_all_the_same(self):
        for read in range(5):
            log = []
            groups, group = self.begun([*gifts(11, 12, 13, 21), END], log)
            asked(group, read)
            over = group.is_over()
            group.close()
            self.assertEqual((group.is_closed(), group.is_over()), (True, over))
            self.assertEqual((groups.is_closed(), groups.beneath()[0].is_closed()), (False, False))
            self.assertIs(groups.group(), group)
            self.assertEqual(groups.ask(), ("gift", 2))
            self.assertEqual((group.is_closed(), group.is_over()), (True, True))
            with self.assertRaises(Closed):
                group.ask()
            self.assertEqual(log, [("s", k) for k in range(4)])
            self.assertIs(groups.group().is_closed(), False)

    def test_closing_a_group_closes_it_alone(self):
        log = []
        groups, group = self.begun([*gifts(11, 12), END], log)
        group.close()
        self.assertEqual(log, [("s", 0)])
        self.assertEqual(groups.ask(), END)
        groups.close()
        self.assertEqual(log[-1], ("s", "closed"))
        with self.assertRaises(Closed):
            group.close()

    def test_a_held_group_refuses_as_any_other_row(self):
        groups, group = self.begun([*gifts(11, 12), END])
        row = Chained([group])
        for act in (group.ask, group.close, group.copied, lambda: Chained([group])):
            with self.assertRaises(Held):
                act()
        self.assertIs(groups.group(), group)
        self.assertEqual(stands(group), (False, False, True, []))
        self.assertEqual(asked(row, 3), [*gifts(11, 12), END])

    def test_groups_that_are_held_still_feed_a_group(self):
        groups, group = self.begun([*gifts(11, 12, 21), END])
        row = Chained([groups])
        self.assertEqual(asked(group, 2), gifts(11, 12))
        self.assertEqual(row.ask(), ("gift", 2))
        self.assertEqual(group.ask(), END)
        self.assertIs(group.groups(), groups)

    def test_no_copy_of_a_group_behind_held_and_closed(self):
        log = []
        groups, group = self.begun([*gifts(11, 12), END], log)
        with self.assertRaises(NoCopy):
            group.copied()
        self.assertIs(group.may_copy(), False)
        self.assertEqual(stands(group), (False, False, False, []))
        self.assertEqual(log, [("s", 0)])
        self.assertEqual(asked(group, 3), [*gifts(11, 12), END])
        with self.assertRaises(NoCopy):
            group.copied()
        group.close()
        with self.assertRaises(Closed):
            group.copied()


class GroupsCopyTest(unittest.TestCase):

    def moments(self):
        """All that three acts can lead to, of each script."""
        for script in SCRIPTS:
            for many in range(4):
                for acts in itertools.product(ACTS, repeat=many):
                    yield script, acts

    def fresh(self, script, acts):
        groups = Groups(scripted(script, []), tens)
        for act in acts:
            act_on(groups, act)
        return groups

    def answers(self, groups, acts):
        told = []
        for act in acts:
            told.append((act_on(groups, act), groups.beneath()[0].drawn(), groups.is_over()))
        return told

    def test_the_copy_and_the_copied_one_go_on_alike(self):
        for script, acts in self.moments():
            for later in itertools.product(ACTS, repeat=4):
                with self.subTest(script=script, acts=acts, later=later):
                    expected = self.answers(self.fresh(script, acts), later)
                    groups = self.fresh(script, acts)
                    other = groups.copied()
                    self.assertEqual(self.answers(other, later), expected)
                    self.assertEqual(self.answers(groups, later), expected)

    def test_the_newest_group_of_a_copy_stands_as_that_one(self):
        for script, acts in self.moments():
            for holds, closes in itertools.product((False, True), repeat=2):
                with self.subTest(script=script, acts=acts, holds=holds, closes=closes):
                    groups = self.fresh(script, acts)
                    if "groups" not in acts:
                        self.assert_no_group(groups.copied())
                        continue
                    group = groups.group()
                    row = Plain([group]) if holds else group
                    if closes:
                        row.close()
                    before = stands(group)
                    drawn = groups.beneath()[0].drawn()
                    newest = groups.copied().group()
                    self.assertIsNot(newest, group)
                    self.assertEqual(stands(newest), (group.is_over(), closes, False, []))
                    self.assertIsNot(newest.groups(), groups)
                    self.assertEqual(stands(group), before)
                    self.assertEqual(groups.beneath()[0].drawn(), drawn)

    def assert_no_group(self, groups):
        with self.assertRaises(NoGroup):
            groups.group()

    def test_the_copy_asks_for_the_marks_of_its_own_draws_alone(self):
        log = []
        given = [answer[1] for answer in SCRIPTS[0] if answer != END]
        for acts in itertools.product(ACTS, repeat=3):
            with self.subTest(acts=acts):
                groups = Groups(scripted(SCRIPTS[0], []), lambda g: log.append(g) or tens(g))
                for act in acts:
                    act_on(groups, act)
                drawn = groups.beneath()[0].drawn()
                del log[:]
                other = groups.copied()
                self.assertEqual(log, [])
                asked(other, 4)
                self.assertEqual(log, given[drawn:])
                del log[:]
                asked(groups, 4)
                self.assertEqual(log, given[drawn:])

    def test_the_copys_group_draws_from_the_copys_row(self):
        log = []
        groups = Groups(gifts_forever(log), lambda g: g // 3)
        groups.ask()
        groups.group().ask()
        other = groups.copied()
        self.assertIs(other.group().groups(), other)
        self.assertEqual(asked(other.group(), 3), [*gifts(1, 2), END])
        self.assertEqual((other.beneath()[0].drawn(), groups.beneath()[0].drawn()), (4, 1))
        self.assertEqual(groups.group().is_over(), False)
        self.assertEqual(asked(groups.group(), 1), gifts(1))
        self.assertEqual(other.ask(), ("gift", 1))
        self.assertEqual((other.beneath()[0].drawn(), groups.beneath()[0].drawn()), (4, 2))

    def test_the_first_gift_is_told_or_not_in_the_copy_as_in_the_copied_one(self):
        groups = Groups(Listed([5, 5]), lambda g: g)
        groups.ask()
        ahead = groups.copied()
        groups.group().ask()
        behind = groups.copied()
        self.assertEqual(ahead.group().ask(), ("gift", 5))
        self.assertEqual(ahead.beneath()[0].drawn(), 1)
        self.assertEqual(behind.group().ask(), ("gift", 5))
        self.assertEqual(behind.beneath()[0].drawn(), 2)

    def test_neither_ends_or_closes_the_others_group(self):
        groups = Groups(Listed([5, 6]), lambda g: g)
        groups.ask()
        other = groups.copied()
        groups.group().close()
        self.assertEqual(stands(other.group()), (False, False, False, []))
        groups.ask()
        self.assertEqual(stands(other.group()), (False, False, False, []))
        other.close()
        self.assertEqual(stands(groups.group()), (False, False, False, []))
        self.assertEqual(groups.group().ask(), ("gift", 6))

    def test_over_groups_are_copied_as_over_with_their_group(self):
        for last in (END, TORN):
            groups = Groups(scripted([*gifts(5), last], []), lambda g: g)
            asked(groups, 2)
            other = groups.copied()
            self.assertEqual((other.is_over(), other.group().is_over()), (True, True))
            self.assertEqual([other.ask(), other.group().ask()], [END, END])

    def test_a_copy_of_a_copy(self):
        groups = Groups(Listed([5, 5, 6]), lambda g: g)
        groups.ask()
        asked(groups.group(), 3)
        other = groups.copied().copied()
        self.assertEqual((other.group().is_over(), other.ask()), (True, ("gift", 6)))
        self.assertEqual(other.beneath()[0].drawn(), 3)
