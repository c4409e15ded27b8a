"""Rows that are looked at ahead."""

import itertools
import unittest

from giftstreams.ahead import Ahead
from giftstreams.cuts import Cut
from giftstreams.errors import Closed, Held
from giftstreams.sources import Counted, Listed
from giftstreams.turned import Turned
from tests.helpers import Plain, asked, gifts_forever, scripted, stands

END = ("end",)
TORN = ("fault", "torn")
SCRIPTS = [
    [END],
    [TORN],
    [("gift", 5), END],
    [("gift", (1, 2)), TORN],
    [("gift", 0), ("gift", 0), ("gift", 7), END]]


class AheadTest(unittest.TestCase):

    def act(self, row, source, script, acts, at=0, seen=False):
        """Ask and look; at is how many answers were asked for."""
        over = False
        for act in acts:
            expected = END if over else script[at]
            self.assertEqual(row.look() if act == "look" else row.ask(), expected)
            over = over or expected[0] != "gift"
            if act == "ask" and expected[0] == "gift":
                at += 1
                seen = False
            else:
                seen = True
            self.assertEqual(source.drawn(), min(at + seen, len(script)))
            self.assertEqual(
                (row.is_over(), source.is_over()), (over, script[source.drawn() - 1][0] != "gift"))

    def test_looks_and_askings_in_any_order(self):
        for script in SCRIPTS:
            for acts in itertools.product(("look", "ask"), repeat=6):
                with self.subTest(script=script, acts=acts):
                    source = scripted(script, [])
                    self.act(Ahead(source), source, script, acts)

    def test_a_look_tells_again_and_again_the_same_drawn_once(self):
        log = []
        row = Ahead(gifts_forever(log))
        self.assertEqual([row.look() for _ in range(4)], [("gift", 0)] * 4)
        self.assertEqual(log, [("s", 0)])
        self.assertEqual(row.ask(), ("gift", 0))
        self.assertEqual(log, [("s", 0)])
        self.assertEqual([row.look(), row.ask(), row.ask()], [("gift", 1), ("gift", 1), ("gift", 2)])
        self.assertEqual(log, [("s", 0), ("s", 1), ("s", 2)])

    def test_not_over_by_looking_at_a_gift(self):
        row = Ahead(Listed([1]))
        row.look()
        self.assertEqual((row.is_over(), row.beneath()[0].is_over()), (False, False))

    def test_an_end_or_a_fault_is_told_once_by_the_look(self):
        for last in (END, TORN):
            log = []
            row = Ahead(scripted([last], log))
            self.assertIs(row.is_over(), False)
            self.assertEqual(row.look(), last)
            self.assertIs(row.is_over(), True)
            self.assertEqual([row.look(), row.ask(), row.look(), row.ask()], [END] * 4)
            self.assertEqual(log, [("s", 0)])

    def test_looked_at_when_it_is_over_by_an_asking(self):
        for last in (END, TORN):
            log = []
            row = Ahead(scripted([last], log))
            self.assertEqual(row.ask(), last)
            self.assertEqual([row.look(), row.look()], [END, END])
            self.assertEqual(log, [("s", 0)])

    def test_looked_at_upon_one_that_is_over_or_stands_further_on(self):
        source = Listed([1])
        source.ask()
        row = Ahead(source)
        self.assertEqual(row.look(), END)
        self.assertEqual(source.drawn(), 2)
        source = Counted(0, 1, 9)
        asked(source, 3)
        self.assertEqual(Ahead(source).look(), ("gift", 3))

    def test_a_look_is_refused_as_an_asking(self):
        for looks in range(2):
            row, closed = Ahead(gifts_forever([])), Ahead(gifts_forever([]))
            for _ in range(looks):
                row.look()
                closed.look()
            upper = Plain([row])
            closed.close()
            with self.assertRaises(Closed):
                closed.look()
            with self.assertRaises(Held):
                row.look()
            upper.close()
            with self.assertRaises(Held):
                row.look()
            for one in (row, closed):
                self.assertEqual((one.is_over(), one.beneath()[0].drawn()), (False, looks))

    def test_refused_where_over_too(self):
        row = Ahead(Listed([]))
        row.look()
        row.close()
        with self.assertRaises(Closed):
            row.look()
        row = Ahead(Listed([]))
        row.look()
        Plain([row])
        with self.assertRaises(Held):
            row.look()

    def test_what_was_looked_at_is_told_to_its_holder(self):
        log = []
        row = Ahead(gifts_forever(log))
        row.look()
        upper = Turned(row, lambda g: g + 10)
        self.assertEqual(asked(upper, 2), [("gift", 10), ("gift", 11)])
        self.assertEqual(log, [("s", 0), ("s", 1)])

    def test_upon_one_another(self):
        source = Counted(0, 1, 9)
        lower = Ahead(source)
        lower.look()
        row = Ahead(lower)
        self.assertEqual([row.look(), row.look(), row.ask()], [("gift", 0)] * 3)
        self.assertEqual(source.drawn(), 1)
        self.assertEqual(row.look(), ("gift", 1))
        self.assertEqual(source.drawn(), 2)

    def test_a_look_through_a_cut_row_asks_nobody_behind_its_end(self):
        source = Counted(0, 1, 9)
        row = Ahead(Cut(source, 1))
        self.assertEqual([row.look(), row.ask(), row.look()], [("gift", 0), ("gift", 0), END])
        self.assertEqual(source.drawn(), 1)


class AheadCopyTest(unittest.TestCase):

    def test_a_copy_between_a_look_and_the_asking_has_the_gift_too(self):
        row = Ahead(Counted(5, 1, 3))
        row.look()
        other = row.copied()
        source = other.beneath()[0]
        self.assertEqual(stands(other), (False, False, False, [source]))
        self.assertEqual([other.look(), other.ask()], [("gift", 5), ("gift", 5)])
        self.assertEqual((source.drawn(), row.beneath()[0].drawn()), (1, 1))
        self.assertEqual([other.ask(), other.ask(), other.ask()], [("gift", 6), ("gift", 7), END])
        self.assertEqual((source.drawn(), row.beneath()[0].drawn()), (4, 1))
        self.assertEqual([row.look(), row.ask(), row.ask()], [("gift", 5), ("gift", 5), ("gift", 6)])

    def test_the_copied_one_goes_on_first(self):
        row = Ahead(Counted(5, 1, 3))
        row.look()
        other = row.copied()
        self.assertEqual(asked(row, 2), [("gift", 5), ("gift", 6)])
        self.assertEqual([other.look(), other.ask()], [("gift", 5), ("gift", 5)])
        self.assertEqual(other.beneath()[0].drawn(), 1)

    def test_a_copy_behind_the_asking_has_no_gift_any_more(self):
        row = Ahead(Counted(5, 1, 3))
        row.look()
        row.ask()
        other = row.copied()
        self.assertEqual([other.look(), other.beneath()[0].drawn()], [("gift", 6), 2])
        self.assertEqual(row.beneath()[0].drawn(), 1)

    def test_a_look_at_one_alone(self):
        row = Ahead(Counted(5, 1, 3))
        other = row.copied()
        row.look()
        self.assertEqual(other.beneath()[0].drawn(), 0)
        self.assertEqual(other.ask(), ("gift", 5))

    def test_over_by_a_look(self):
        for last in (END, TORN):
            log = []
            row = Ahead(scripted([last], log))
            row.look()
            other = row.copied()
            self.assertIs(other.is_over(), True)
            self.assertEqual([other.look(), other.ask()], [END, END])
            self.assertEqual(log, [("s", 0)])

    def test_a_copy_of_a_copy_and_of_one_far_beneath(self):
        row = Ahead(Counted(5, 1, 3))
        row.look()
        upper = Turned(row, lambda g: -g)
        other = upper.copied().copied()
        self.assertEqual(asked(other, 4), [("gift", -5), ("gift", -6), ("gift", -7), END])
        self.assertEqual(upper.beneath()[0].beneath()[0].drawn(), 1)
