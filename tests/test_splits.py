"""Readers of one row: what each is told, what is kept, when it is closed."""

import itertools
import unittest

from giftstreams.cuts import Cut
from giftstreams.errors import Closed, Held
from giftstreams.joined import Beside, Chained
from giftstreams.sources import Counted, Listed
from giftstreams.splits import Reader, split
from giftstreams.turned import Turned
from tests.helpers import Plain, Several, asked, gifts_forever, scripted, stands

END = ("end",)
TORN = ("fault", "torn")


def gifts(*things):
    return [("gift", thing) for thing in things]


SCRIPTS = [
    [*gifts(7, 7), END],
    [*gifts(5, (6, 6), 7), TORN],
    [END],
    [TORN]]


class Model:
    """The readers as places in one script."""

    def __init__(self, script, many):
        self.script = script
        self.drawn = 0
        self.places = [0] * many
        self.over = [False] * many
        self.closed = [False] * many

    def ended(self):
        return self.drawn > 0 and self.script[self.drawn - 1][0] != "gift"

    def ask(self, number):
        place = self.places[number]
        if self.over[number]:
            return END
        if place == self.drawn and not self.ended():
            self.drawn += 1
            answer = self.script[place]
        elif self.script[place][0] == "gift":
            answer = self.script[place]
        else:
            answer = END
        if answer[0] == "gift":
            self.places[number] += 1
        else:
            self.over[number] = True
        return answer

    def copy(self, number):
        for values in (self.places, self.over, self.closed):
            values.append(values[number])

    def kept(self):
        told = [answer[1] for answer in self.script[:self.drawn] if answer[0] == "gift"]
        open_places = [
            place for place, closed in zip(self.places, self.closed) if not closed]
        return [gift for at, gift in enumerate(told) if any(at >= place for place in open_places)]


class SplitTest(unittest.TestCase):

    def agree(self, source, readers, model, log):
        self.assertEqual(source.drawn(), model.drawn)
        for reader in readers:
            self.assertEqual(reader.kept(), model.kept())
            self.assertIs(reader.split_row(), source)
        self.assertEqual([reader.place() for reader in readers], model.places)
        self.assertEqual([reader.is_over() for reader in readers], model.over)
        self.assertEqual([reader.is_closed() for reader in readers], model.closed)
        self.assertEqual(stands(source), (model.ended(), all(model.closed), True, []))
        self.assertEqual(log.count(("s", "closed")), int(all(model.closed)))

    def run_acts(self, script, many, acts):
        log = []
        source = scripted(script, log)
        readers = split(source, many)
        model = Model(script, many)
        self.agree(source, readers, model, log)
        for act, number in acts:
            if number >= len(readers):
                continue
            if model.closed[number]:
                with self.assertRaises(Closed):
                    {"ask": readers[number].ask, "copy": readers[number].copied,
                     "close": readers[number].close}[act]()
            elif act == "ask":
                self.assertEqual(readers[number].ask(), model.ask(number))
            elif act == "copy":
                readers.append(readers[number].copied())
                model.copy(number)
            else:
                readers[number].close()
                model.closed[number] = True
            self.agree(source, readers, model, log)
        self.assertEqual([note[1] for note in log if note[1] != "closed"], list(range(model.drawn)))

    def test_all_short_rows_of_acts(self):
        acts = [("ask", 0), ("ask", 1), ("ask", 2), ("copy", 0), ("copy", 1), ("close", 0),
                ("close", 1), ("close", 2)]
        for row in itertools.product(acts, repeat=4):
            with self.subTest(row):
                self.run_acts(SCRIPTS[0], 2, row)

    def test_long_rows_of_acts(self):
        at = 1
        for script in SCRIPTS:
            for many in range(1, 7):
                for _ in range(12):
                    acts = []
                    for _ in range(30):
                        at = (at * 75 + 74) % 65537
                        kind = ("ask", "ask", "ask", "ask", "ask", "copy", "close")[at // 8 % 7]
                        acts.append((kind, at // 64 % 8))
                    with self.subTest(script=script, many=many, acts=acts):
                        self.run_acts(script, many, acts)

    def test_readers_asked_in_any_order(self):
        for many in range(1, 4):
            for order in itertools.product(range(many), repeat=6):
                with self.subTest(order=order):
                    self.run_acts([*gifts(1, 2, 3), END], many, [("ask", at) for at in order])

    def test_six_readers_each_told_all_gifts_in_order(self):
        source = Counted(3, 2, 4)
        readers = split(source, 6)
        self.assertEqual([type(reader) for reader in readers], [Reader] * 6)
        self.assertEqual(len({id(reader) for reader in readers}), 6)
        for reader in readers:
            self.assertEqual(asked(reader, 6), [*gifts(3, 5, 7, 9), END, END])
        self.assertEqual(source.drawn(), 5)

    def test_nobody_is_asked_by_the_splitting(self):
        log = []
        readers = split(gifts_forever(log), 3)
        self.assertEqual((log, readers[0].kept(), readers[2].place()), ([], [], 0))

    def test_the_list_told_is_the_askers_own(self):
        readers = split(Counted(0, 1, 9), 2)
        first, second = readers
        del readers[:]
        self.assertEqual(first.ask(), ("gift", 0))
        kept = second.kept()
        kept.append(None)
        kept[0] = 5
        self.assertEqual((second.kept(), second.ask()), ([0], ("gift", 0)))

    def test_from_where_the_row_stands(self):
        source = Counted(0, 1, 4)
        asked(source, 2)
        left, right = split(source, 2)
        self.assertEqual(asked(left, 3), [*gifts(2, 3), END])
        self.assertEqual((left.place(), right.place(), right.kept()), (2, 0, [2, 3]))
        self.assertEqual(source.drawn(), 5)

    def test_of_a_row_that_is_over(self):
        source = Listed([1])
        asked(source, 2)
        left, right = split(source, 2)
        self.assertEqual([left.is_over(), left.ask(), right.ask()], [False, END, END])
        self.assertEqual(source.drawn(), 2)

    def test_a_fault_to_the_one_that_met_it_alone(self):
        log = []
        left, middle, right = split(scripted([*gifts(1, 2), TORN], log), 3)
        middle.ask()
        self.assertEqual(asked(left, 4), [*gifts(1, 2), TORN, END])
        self.assertEqual((middle.is_over(), right.is_over()), (False, False))
        late = middle.copied()
        self.assertEqual(asked(right, 4), [*gifts(1, 2), END, END])
        self.assertEqual(asked(middle, 3), [*gifts(2), END, END])
        self.assertEqual(asked(late, 3), [*gifts(2), END, END])
        self.assertEqual(log, [("s", 0), ("s", 1), ("s", 2)])

    def test_readers_of_readers(self):
        source = Counted(0, 1, 9)
        outer = split(source, 2)
        inner = split(outer[0], 2)
        self.assertEqual(asked(inner[1], 3), gifts(0, 1, 2))
        self.assertEqual(outer[0].place(), 3)
        self.assertEqual((outer[0].kept(), inner[0].kept()), ([0, 1, 2], [0, 1, 2]))
        self.assertEqual(asked(outer[1], 2), gifts(0, 1))
        self.assertEqual((outer[0].kept(), inner[1].kept()), ([2], [0, 1, 2]))
        self.assertEqual(inner[0].split_row(), outer[0])
        with self.assertRaises(Held):
            outer[0].ask()
        self.assertEqual(asked(inner[0], 4), gifts(0, 1, 2, 3))
        self.assertEqual(source.drawn(), 4)
        inner[0].close()
        inner[1].close()
        self.assertEqual((outer[0].is_closed(), source.is_closed()), (True, False))
        outer[1].close()
        self.assertIs(source.is_closed(), True)

    def test_many_readers_of_readers_deep(self):
        source = Counted(0, 1, 200)
        row = source
        others = []
        for _ in range(9):
            row, other = split(row, 2)
            others.append(other)
        self.assertEqual(asked(row, 3), gifts(0, 1, 2))
        self.assertEqual(source.drawn(), 3)
        for other in others:
            self.assertEqual(asked(other, 4), gifts(0, 1, 2, 3))
        self.assertEqual(source.drawn(), 4)
        for other in others:
            other.close()
        self.assertIs(source.is_closed(), False)
        row.close()
        self.assertIs(source.is_closed(), True)


class KeptTest(unittest.TestCase):

    def test_kept_for_one_that_is_held_by_a_row_that_is_over(self):
        left, right = split(Counted(0, 1, 9), 2)
        row = Cut(left, 1)
        asked(row, 3)
        asked(right, 3)
        self.assertEqual((right.kept(), left.kept(), left.place()), ([1, 2], [1, 2], 1))
        row.close()
        self.assertEqual((right.kept(), left.kept(), left.place()), ([], [], 1))

    def test_nothing_is_kept_where_all_are_closed(self):
        left, right = split(Counted(0, 1, 9), 2)
        asked(left, 2)
        left.close()
        self.assertEqual(left.kept(), [0, 1])
        right.close()
        self.assertEqual((left.kept(), right.kept()), ([], []))
        self.assertEqual((left.place(), right.place()), (2, 0))

    def test_kept_for_a_copy_that_lags(self):
        left, right = split(Counted(0, 1, 9), 2)
        left.ask()
        other = left.copied()
        self.assertEqual((other.place(), other.split_row()), (1, left.split_row()))
        asked(left, 2)
        asked(right, 3)
        self.assertEqual([one.kept() for one in (left, right, other)], [[1, 2]] * 3)
        self.assertEqual(other.ask(), ("gift", 1))
        self.assertEqual(other.place(), 2)
        self.assertEqual(left.kept(), [2])
        other.close()
        self.assertEqual(left.kept(), [])

    def test_told_though_held_or_over(self):
        left, right = split(Listed([4]), 2)
        upper = Plain([left])
        asked(right, 2)
        self.assertEqual((left.kept(), left.place(), left.is_held()), ([4], 0, True))
        self.assertEqual((right.kept(), right.place(), right.is_over()), ([4], 1, True))
        upper.close()
        self.assertEqual((left.kept(), left.place(), right.kept()), ([], 0, []))


class ClosingTest(unittest.TestCase):

    def test_the_row_is_closed_when_the_last_one_is_in_any_order(self):
        for many in range(1, 5):
            for order in itertools.permutations(range(many)):
                log = []
                lower = Several([gifts_forever(log, "a"), gifts_forever(log, "b")], log, "lower")
                readers = split(lower, many)
                for at in order[:-1]:
                    readers[at].close()
                    self.assertEqual((log, lower.is_closed()), ([], False))
                readers[order[-1]].close()
                self.assertEqual(log, [("lower", "closed"), ("a", "closed"), ("b", "closed")])
                self.assertIs(lower.is_closed(), True)
                self.assertEqual([reader.is_over() for reader in readers], [False] * many)

    def test_copies_are_counted(self):
        log = []
        reader = split(gifts_forever(log), 1)[0]
        first = reader.copied()
        second = first.copied()
        reader.close()
        first.close()
        self.assertEqual(log, [])
        third = second.copied()
        second.close()
        self.assertEqual(log, [])
        third.close()
        self.assertEqual(log, [("s", "closed")])

    def test_copies_of_what_holds_a_reader_are_counted(self):
        log = []
        row = Turned(Turned(split(gifts_forever(log), 1)[0], abs), abs)
        other = row.copied()
        row.close()
        self.assertEqual(log, [])
        other.close()
        self.assertEqual(log, [("s", "closed")])

    def test_one_row_may_hold_all_readers(self):
        log = []
        row = Beside([*split(gifts_forever(log), 3), gifts_forever(log, "t")])
        row.close()
        self.assertEqual(log, [("s", "closed"), ("t", "closed")])
        log = []
        left, right = split(gifts_forever(log), 2)
        row = Beside([Turned(left, abs), gifts_forever(log, "t"), Chained([right])])
        row.close()
        self.assertEqual(log, [("t", "closed"), ("s", "closed")])

    def test_the_split_row_is_closed_ahead_of_the_next_one_to_the_right(self):
        log = []
        readers = split(Several([gifts_forever(log)], log, "lower"), 2)
        right = Several([readers[1], gifts_forever(log, "t")], log, "right")
        row = Several([readers[0], right], log, "row")
        row.close()
        self.assertEqual(log, [
            ("row", "closed"), ("right", "closed"), ("lower", "closed"), ("s", "closed"),
            ("t", "closed")])

    def test_readers_that_are_over_count_until_they_are_closed(self):
        log = []
        left, right = split(scripted([END], log), 2)
        asked(left, 2)
        asked(right, 2)
        left.close()
        self.assertEqual(log, [("s", 0)])
        right.close()
        self.assertEqual(log, [("s", 0), ("s", "closed")])

    def test_closing_closes_no_other_reader(self):
        left, right = split(Counted(0, 1, 9), 2)
        left.close()
        self.assertEqual(stands(right), (False, False, False, []))
        self.assertEqual(right.ask(), ("gift", 0))

    def test_once_though_a_closed_reader_is_copied_by_its_holder(self):
        log = []
        reader = split(gifts_forever(log), 1)[0]
        row = Plain([reader])
        reader.told()
        row.close()
        self.assertEqual(log, [("s", 0), ("s", "closed")])
        other = reader.whole_copy()
        self.assertEqual((other.place(), stands(other)), (1, (False, False, False, [])))
        other.close()
        self.assertEqual(log, [("s", 0), ("s", "closed")])


class CopyTest(unittest.TestCase):

    def test_one_more_reader_of_the_same_split(self):
        source = Counted(0, 1, 4)
        reader = split(source, 1)[0]
        asked(reader, 2)
        other = reader.copied()
        self.assertIs(type(other), Reader)
        self.assertEqual(stands(other), (False, False, False, []))
        self.assertIs(other.split_row(), source)
        self.assertEqual(other.ask(), ("gift", 2))
        self.assertEqual(reader.ask(), ("gift", 2))
        self.assertEqual(source.drawn(), 3)
        self.assertEqual(asked(reader, 2), [("gift", 3), END])
        self.assertEqual(asked(other, 2), [("gift", 3), END])
        self.assertEqual(source.drawn(), 5)

    def test_over_where_that_is_over(self):
        reader, other = split(scripted([TORN], []), 2)
        reader.ask()
        copy = reader.copied()
        self.assertEqual((copy.is_over(), copy.ask()), (True, END))
        self.assertEqual((other.copied().is_over(), other.copied().ask()), (False, END))

    def test_nets_hang_on_the_same_split_and_else_go_on_by_themselves(self):
        source, beside = Counted(0, 1, 9), Counted(100, 1, 9)
        reader = split(source, 1)[0]
        row = Beside([reader, beside])
        row.ask()
        other = row.copied()
        self.assertEqual(asked(other, 2), gifts((1, 101), (2, 102)))
        self.assertEqual((source.drawn(), beside.drawn()), (3, 1))
        self.assertEqual(reader.kept(), [1, 2])
        self.assertEqual(asked(row, 3), gifts((1, 101), (2, 102), (3, 103)))
        self.assertEqual((source.drawn(), beside.drawn()), (4, 4))
        self.assertEqual(other.ask(), ("gift", (3, 103)))
        self.assertEqual((source.drawn(), other.beneath()[1].drawn()), (4, 4))
        self.assertEqual(reader.kept(), [])
