"""Groups beneath rows of all sorts, and what holds one."""

import unittest

from giftstreams.ahead import Ahead
from giftstreams.cuts import Cut, Left, Upto
from giftstreams.errors import Closed, Held, NoCopy
from giftstreams.groups import Groups
from giftstreams.joined import Beside, Chained
from giftstreams.sources import Counted, Listed
from giftstreams.splits import split
from giftstreams.turned import Sieved, Turned
from giftstreams.windows import Windows
from tests.helpers import Plain, asked, gifts_forever, scripted, stands

END = ("end",)
TORN = ("fault", "torn")


def gifts(*things):
    return [("gift", thing) for thing in things]


def tens(thing):
    return thing // 10


# Upon the group of 10, 11, 12, 13: what the row answers.
UPON_A_GROUP = [
    ("turned", lambda group: Turned(group, lambda g: -g), gifts(-10, -11, -12, -13)),
    ("sieved", lambda group: Sieved(group, lambda g: g % 2 == 0), gifts(10, 12)),
    ("cut", lambda group: Cut(group, 3), gifts(10, 11, 12)),
    ("left", lambda group: Left(group, 3), gifts(13)),
    ("upto", lambda group: Upto(group, lambda g: g < 12), gifts(10, 11)),
    ("chained", lambda group: Chained([Listed([1]), group, Listed([2])]),
     gifts(1, 10, 11, 12, 13, 2)),
    ("beside", lambda group: Beside([Counted(0, 1, 200), group]),
     gifts((0, 10), (1, 11), (2, 12), (3, 13))),
    ("ahead", Ahead, gifts(10, 11, 12, 13)),
    ("windows", lambda group: Windows(group, 2, 1), gifts((10, 11), (11, 12), (12, 13))),
    ("groups", lambda group: Groups(group, lambda g: g // 2), gifts(5, 6)),
    ("several deep", lambda group: Beside([Chained([Cut(Turned(Ahead(group), abs), 9)])]),
     gifts((10,), (11,), (12,), (13,)))]


def in_a_group(log=None):
    source = scripted([*gifts(10, 11, 12, 13, 20), END], [] if log is None else log)
    groups = Groups(source, tens)
    groups.ask()
    return source, groups, groups.group()


class UponAGroupTest(unittest.TestCase):

    def test_it_answers_as_upon_any_other_row(self):
        for name, make, answers in UPON_A_GROUP:
            with self.subTest(name):
                source, groups, group = in_a_group()
                row = make(group)
                self.assertEqual(asked(row, len(answers) + 2), [*answers, END, END])
                self.assertIs(groups.is_over(), False)
                self.assertEqual(groups.ask(), ("gift", 2))
                self.assertEqual(source.drawn(), 5)
                self.assertEqual(groups.group().ask(), ("gift", 20))

    def test_the_group_is_over_beneath_it_where_the_next_one_is_begun(self):
        for name, make, answers in UPON_A_GROUP:
            with self.subTest(name):
                source, groups, group = in_a_group()
                row = make(group)
                self.assertEqual(row.ask(), answers[0])
                groups.ask()
                self.assertIs(group.is_over(), True)
                drawn = source.drawn()
                rest = asked(row, 4)
                self.assertEqual(rest[2:], [END, END])
                self.assertEqual(source.drawn(), drawn)
                self.assertEqual(groups.group().ask(), ("gift", 20))

    def test_no_copy_and_nothing_is_changed(self):
        for name, make, answers in UPON_A_GROUP:
            for many in range(len(answers) + 2):
                with self.subTest(name, asked=many):
                    source, groups, group = in_a_group()
                    row = make(group)
                    asked(row, many)
                    before = [stands(one) for one in (source, groups, group, row)]
                    drawn = source.drawn()
                    for act in (row.copied, row.whole_copy, group.whole_copy):
                        with self.assertRaises(NoCopy):
                            act()
                    with self.assertRaises(Held):
                        group.copied()
                    self.assertEqual(source.drawn(), drawn)
                    self.assertEqual([stands(one) for one in (source, groups, group, row)], before)
                    rest = [*answers, END, END][many:]
                    self.assertEqual(asked(row, len(rest)), rest)

    def test_no_copy_behind_held_and_closed(self):
        for name, make, _ in UPON_A_GROUP:
            with self.subTest(name):
                row = make(in_a_group()[2])
                Plain([row])
                with self.assertRaises(Held):
                    row.copied()
                row = make(in_a_group()[2])
                row.close()
                with self.assertRaises(Closed):
                    row.copied()

    def test_closing_closes_the_group_and_it_is_passed_over(self):
        for name, make, _ in UPON_A_GROUP:
            with self.subTest(name):
                log = []
                source, groups, group = in_a_group(log)
                make(group).close()
                self.assertEqual((group.is_closed(), groups.is_closed()), (True, False))
                self.assertEqual(groups.ask(), ("gift", 2))
                self.assertEqual(log, [("s", k) for k in range(5)])

    def test_the_groups_are_copied_though_their_group_is_held(self):
        for name, make, answers in UPON_A_GROUP:
            with self.subTest(name):
                source, groups, group = in_a_group()
                row = make(group)
                row.ask()
                drawn = source.drawn()
                other = groups.copied()
                self.assertEqual(stands(other.group()), (group.is_over(), False, False, []))
                asked(other.group(), 9)
                self.assertEqual(other.ask(), ("gift", 2))
                self.assertEqual(source.drawn(), drawn)
                self.assertEqual(asked(row, len(answers))[:-1], answers[1:])

    def test_a_fault_met_through_a_group_ends_its_groups(self):
        for name, make, answers in UPON_A_GROUP:
            with self.subTest(name):
                source = scripted([*gifts(10), TORN], [])
                groups = Groups(source, tens)
                groups.ask()
                row = make(groups.group())
                told = []
                while not row.is_over():
                    told.append(row.ask())
                if source.is_over():
                    self.assertEqual(told[-1], TORN)
                    self.assertIs(groups.is_over(), True)
                    self.assertEqual(groups.ask(), END)
                self.assertEqual(row.ask(), END)


class GroupsOfGroupsTest(unittest.TestCase):

    def test_groups_upon_the_group_of_other_groups(self):
        source = Counted(0, 1, 200)
        hundreds = Groups(source, lambda g: g // 100)
        self.assertEqual(hundreds.ask(), ("gift", 0))
        inner = Groups(hundreds.group(), tens)
        self.assertEqual(asked(inner, 2), gifts(0, 1))
        self.assertEqual(source.drawn(), 11)
        innermost = Groups(inner.group(), lambda g: g // 5)
        self.assertEqual(asked(innermost, 3), [*gifts(2, 3), END])
        self.assertEqual(source.drawn(), 21)
        self.assertEqual((innermost.is_over(), inner.is_over(), hundreds.is_over()),
                         (True, False, False))
        self.assertEqual(inner.ask(), ("gift", 2))
        self.assertEqual(source.drawn(), 21)
        self.assertEqual(asked(inner.group(), 2), gifts(20, 21))
        self.assertEqual(hundreds.ask(), ("gift", 1))
        self.assertEqual(source.drawn(), 101)
        self.assertEqual((inner.is_over(), inner.group().is_over()), (False, False))
        self.assertEqual(inner.group().ask(), END)
        self.assertEqual((inner.is_over(), inner.group().is_over()), (True, True))
        self.assertEqual(hundreds.group().ask(), ("gift", 100))

    def test_a_fault_ends_all_of_them_and_is_told_once(self):
        groups = Groups(scripted([*gifts(1, 1), TORN], []), abs)
        groups.ask()
        inner = Groups(groups.group(), abs)
        inner.ask()
        innermost = Groups(inner.group(), abs)
        innermost.ask()
        group = innermost.group()
        self.assertEqual(asked(group, 3), [*gifts(1, 1), TORN])
        for one in (groups, inner, innermost, groups.group(), inner.group(), group):
            self.assertIs(one.is_over(), True)
        self.assertEqual([groups.ask(), inner.ask(), innermost.ask(), group.ask()], [END] * 4)

    def test_eight_upon_one_another(self):
        source = Listed([1, 1, 1, 2])
        chain = [Groups(source, abs)]
        chain[0].ask()
        for _ in range(7):
            chain.append(Groups(chain[-1].group(), abs))
            self.assertEqual(chain[-1].ask(), ("gift", 1))
        self.assertEqual(source.drawn(), 1)
        self.assertEqual(asked(chain[-1].group(), 4), [*gifts(1, 1, 1), END])
        self.assertEqual(source.drawn(), 4)
        self.assertEqual([groups.is_over() for groups in chain], [False] + [True] * 7)
        self.assertEqual(chain[0].ask(), ("gift", 2))
        self.assertEqual(source.drawn(), 4)
        with self.assertRaises(NoCopy):
            chain[-1].copied()
        self.assertEqual(chain[0].copied().group().ask(), ("gift", 2))

    def test_no_copy_of_groups_upon_a_group_nor_of_their_group(self):
        groups = Groups(Listed([1, 1]), abs)
        groups.ask()
        inner = Groups(groups.group(), abs)
        inner.ask()
        for row in (inner, inner.group()):
            with self.assertRaises(NoCopy):
                row.copied()
        with self.assertRaises(NoCopy):
            Chained([Listed([1]), inner]).copied()

    def test_no_copy_leaves_no_reader_behind(self):
        source = Counted(0, 1, 9)
        left, right = split(source, 2)
        groups = Groups(Listed([1, 1]), abs)
        groups.ask()
        row = Beside([left, groups.group()])
        row.ask()
        right.ask()
        with self.assertRaises(NoCopy):
            row.copied()
        self.assertEqual(right.kept(), [])
        right.ask()
        self.assertEqual(right.kept(), [1])
        row.close()
        self.assertIs(source.is_closed(), False)
        right.close()
        self.assertIs(source.is_closed(), True)

    def test_a_reader_of_a_group_holds_none_and_is_copied(self):
        source, groups, group = in_a_group()
        left, right = split(group, 2)
        self.assertEqual(left.ask(), ("gift", 10))
        other = right.copied()
        self.assertEqual(asked(other, 5), [*gifts(10, 11, 12, 13), END])
        self.assertEqual(asked(left, 4), [*gifts(11, 12, 13), END])
        self.assertEqual(source.drawn(), 5)
        self.assertEqual(groups.ask(), ("gift", 2))
        self.assertEqual(asked(right, 5), [*gifts(10, 11, 12, 13), END])
        self.assertIs(right.split_row(), group)

    def test_groups_upon_a_reader(self):
        source = Listed([10, 11, 20, 21])
        left, right = split(source, 2)
        groups = Groups(left, tens)
        groups.ask()
        other = groups.copied()
        self.assertEqual(asked(groups.group(), 3), [*gifts(10, 11), END])
        self.assertEqual(source.drawn(), 3)
        self.assertEqual(left.place(), 3)
        self.assertEqual(right.kept(), [10, 11, 20])
        self.assertEqual(asked(other.group(), 3), [*gifts(10, 11), END])
        self.assertEqual(source.drawn(), 3)
        self.assertEqual(asked(right, 3), gifts(10, 11, 20))
        self.assertEqual(right.kept(), [])
        self.assertEqual([groups.ask(), other.ask()], gifts(2, 2))
        self.assertEqual(asked(other, 1), [END])
        self.assertEqual(source.drawn(), 5)
        self.assertEqual(asked(groups.group(), 3), [*gifts(20, 21), END])

    def test_groups_and_their_group_beneath_one_row(self):
        source, groups, group = in_a_group()
        row = Beside([Turned(group, abs), groups])
        self.assertEqual(row.ask(), ("gift", (10, 2)))
        self.assertEqual(source.drawn(), 5)
        self.assertEqual(asked(row, 2), [END, END])
        self.assertEqual(source.drawn(), 5)
        log = []
        source, groups, group = in_a_group(log)
        row = Chained([groups, group])
        self.assertEqual(asked(row, 2), [("gift", 2), END])
        row.close()
        self.assertEqual(log[-2:], [("s", 5), ("s", "closed")])
        self.assertEqual((group.is_closed(), groups.is_closed()), (True, True))

    def test_a_group_ahead_of_its_groups_in_one_row(self):
        source, groups, group = in_a_group()
        row = Chained([group, groups])
        self.assertEqual(asked(row, 6), [*gifts(10, 11, 12, 13, 2), END])
        self.assertEqual(source.drawn(), 6)

    def test_looking_ahead_at_groups_begins_the_next_one(self):
        source, groups, group = in_a_group()
        row = Ahead(groups)
        self.assertEqual(row.look(), ("gift", 2))
        self.assertIs(group.is_over(), True)
        self.assertEqual(source.drawn(), 5)

    def test_closing_the_source_row_of_a_split_ends_the_group(self):
        log = []
        groups = Groups(gifts_forever(log), tens)
        groups.ask()
        group = groups.group()
        readers = split(groups, 2)
        readers[0].close()
        self.assertIs(group.is_over(), False)
        readers[1].close()
        self.assertEqual((groups.is_closed(), group.is_over(), group.is_closed()),
                         (True, True, False))
        self.assertEqual(log, [("s", 0), ("s", "closed")])
