"""On which sources a row hangs."""

import unittest

from giftstreams.ahead import Ahead
from giftstreams.cuts import Cut, Left, Upto
from giftstreams.errors import NoRow
from giftstreams.groups import Groups
from giftstreams.joined import Beside, Chained
from giftstreams.nets import sources_of
from giftstreams.sources import Counted, Listed, ToldBy
from giftstreams.spares import Spare, Wanted
from giftstreams.splits import split
from giftstreams.turned import Sieved, Turned
from giftstreams.windows import Windows
from tests.helpers import Plain, Several, asked, gifts_forever, no_lists, no_rows, scripted


def source(number=0):
    return Listed([number, number + 1])


class SourcesTest(unittest.TestCase):

    def told(self, row, expected):
        """The very rows, in this order."""
        sources = sources_of(row)
        self.assertIs(type(sources), list)
        self.assertEqual([id(one) for one in sources], [id(one) for one in expected])

    def test_a_source_is_its_own_one(self):
        for row in (Listed([]), Counted(1, 1, 1), ToldBy(lambda k: ("end",), lambda: None)):
            self.told(row, [row])
            row.ask()
            self.told(row, [row])
            row.close()
            self.told(row, [row])

    def test_of_each_sort_of_row(self):
        for make in (
                lambda row: Turned(row, abs), lambda row: Sieved(row, bool),
                lambda row: Cut(row, 1), lambda row: Left(row, 1), lambda row: Upto(row, bool),
                Ahead, lambda row: Windows(row, 2, 1), lambda row: Groups(row, abs),
                lambda row: Wanted(row, 1, "bare"), lambda row: Chained([row]),
                lambda row: Beside([row]), lambda row: split(row, 1)[0],
                lambda row: Plain([row])):
            lower = source()
            self.told(make(make(make(lower))), [lower])

    def test_of_rows_that_hold_several_from_the_left(self):
        a, b, c, d, e = [source(at) for at in range(5)]
        left = Spare(b, a)
        right = Chained([e, Beside([c, d])])
        self.told(left, [b, a])
        self.told(right, [e, c, d])
        self.told(Several([right, left], []), [e, c, d, b, a])

    def test_of_what_holds_none_and_is_no_source(self):
        self.told(Chained([]), [])
        self.told(Plain([]), [])
        self.told(Plain([Chained([]), Plain([])]), [])
        lower = source()
        self.told(Beside([Chained([]), lower, Plain([])]), [lower])

    def test_of_readers_and_of_what_stands_upon_readers_of_one_split(self):
        a, b = source(1), source(2)
        lower = Beside([a, b])
        left, right = split(lower, 2)
        self.told(left, [a, b])
        self.told(right.copied(), [a, b])
        c = source(3)
        self.told(Chained([Turned(right, len), c, Cut(left, 1)]), [a, b, c])

    def test_each_once_where_it_is_met_first(self):
        a, b, c = source(1), source(2), source(3)
        of_b, of_c = split(b, 3), split(c, 2)
        row = Beside([of_c[1], a, of_b[0], Spare(of_b[2], of_c[0]), of_b[1]])
        self.told(row, [c, a, b])

    def test_one_split_met_first_by_an_inner_reader(self):
        a, b = source(1), source(2)
        outer = split(a, 3)
        inner = split(Chained([b, outer[1]]), 2)
        self.told(Beside([inner[0], outer[0], inner[1], outer[2]]), [b, a])
        outer = split(source(3), 2)
        inner = split(Chained([outer[1], source(4)]), 1)
        row = Beside([outer[0], inner[0]])
        self.told(row, [outer[0].split_row(), inner[0].split_row().beneath()[1]])

    def test_of_groups_and_of_a_group(self):
        a, b = source(10), source(20)
        groups = Groups(Chained([a, b]), lambda g: g // 10)
        groups.ask()
        group = groups.group()
        self.told(groups, [a, b])
        self.told(group, [a, b])
        c = source(30)
        self.told(Chained([c, Turned(group, abs)]), [c, a, b])
        groups.ask()
        self.told(group, [a, b])
        self.told(Chained([groups.group(), groups]), [a, b])

    def test_deep_beneath_readers_of_groups_of_readers(self):
        a, b = source(1), source(5)
        readers = split(a, 2)
        groups = Groups(Beside([readers[0], b]), len)
        groups.ask()
        inner = Groups(groups.group(), len)
        inner.ask()
        others = split(inner.group(), 2)
        row = Spare(Wanted(Windows(others[1], 1, 1), 1, "bare"), Ahead(readers[1]))
        self.told(row, [a, b])
        self.told(others[0], [a, b])
        self.told(Chained([row, others[0]]), [a, b])

    def test_at_any_time(self):
        a, b = scripted([("end",)], [], "a"), scripted([("fault", "torn")], [], "b")
        inner = Spare(b, a)
        reader, other = split(inner, 2)
        row = Turned(reader, abs)
        for _ in range(2):
            self.told(inner, [b, a])
            self.told(row, [b, a])
            row.ask()
        self.assertIs(row.is_over(), True)
        upper = Plain([row])
        self.told(row, [b, a])
        upper.close()
        self.told(row, [b, a])
        self.told(reader, [b, a])
        other.close()
        self.assertIs(b.is_closed(), True)
        self.told(other, [b, a])
        self.told(upper, [b, a])

    def test_of_a_closed_group_and_of_closed_groups(self):
        a = source()
        groups = Groups(a, abs)
        groups.ask()
        group = groups.group()
        group.close()
        self.told(group, [a])
        groups.close()
        self.told(groups, [a])
        self.told(group, [a])

    def test_a_copy_hangs_on_its_own_sources_but_through_readers(self):
        a, b = source(1), source(2)
        reader = split(a, 1)[0]
        row = Beside([b, reader])
        other = row.copied()
        self.told(row, [b, a])
        self.assertIsNot(other.beneath()[0], b)
        self.told(other, [other.beneath()[0], a])

    def test_nobody_is_asked_or_closed(self):
        log = []
        lower = gifts_forever(log)
        row = Ahead(split(lower, 1)[0])
        sources_of(row)
        self.assertEqual((log, lower.drawn()), ([], 0))
        self.assertEqual(row.look(), ("gift", 0))

    def test_the_list_is_the_askers_own(self):
        a, b = source(1), source(2)
        row = Chained([a, b])
        sources_of(row).clear()
        self.told(row, [a, b])
        sources_of(a).append(None)
        self.told(a, [a])

    def test_no_row_of_anything(self):
        for thing in [*no_rows(), [source()], (source(),), *[
                one for one in no_lists() if not isinstance(one, Listed)]]:
            with self.subTest(thing=thing):
                with self.assertRaises(NoRow):
                    sources_of(thing)

    def test_many_readers_upon_readers_each_split_row_gone_through_once(self):
        lowest = source()
        row = lowest
        gone_through = []

        class Noting(Chained):
            def beneath(self):
                gone_through.append(self)
                return Chained.beneath(self)

        made = []
        for _ in range(9):
            row = Noting(split(row, 6))
            made.append(row)
        del gone_through[:]
        self.told(row, [lowest])
        self.assertEqual(gone_through, made[::-1])

    def test_three_hundred_rows(self):
        sources = [source(at) for at in range(36)]
        rows = [Beside([Turned(Cut(one, 2), abs) for one in sources[at:at + 6]])
                for at in range(0, 36, 6)]
        row = Beside(rows)
        asked(row, 1)
        self.told(row, sources)
