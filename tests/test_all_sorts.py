"""Nets of all sorts of rows, grown, asked, split, copied and closed as it
comes: they answer, draw and close as the models do."""

import unittest

from giftstreams.ahead import Ahead
from giftstreams.errors import Closed, Held, NoCopy, NoGroup
from giftstreams.groups import Groups
from giftstreams.nets import sources_of, taken
from giftstreams.rows import Row
from giftstreams.spares import Spare
from tests.model import Chance
from tests.twins import ENDS, Net

ACTS = ["ask"] * 6 + ["grow"] * 6 + ["plan"] * 2 + ["group"] * 4 + [
    "take", "take", "look", "look", "split", "copy", "close", "refused", "refused"]
SORT_OF = {"look": Ahead, "group": Groups}


def scripts(chance, many):
    """So many scripts, of numbers of which neighbours are often alike."""
    told = []
    for _ in range(many):
        numbers = [chance.below(9) + chance.below(2) * 20 for _ in range(chance.below(20))]
        told.append([("gift", number) for number in numbers] + [chance.one_of(ENDS)])
    return told


class AllSortsTest(unittest.TestCase):

    def agree(self, net):
        self.assertEqual(net.log, net.m_log)
        for twin in net.twins:
            of_row, of_model = net.told_of(twin)
            self.assertEqual(of_row, of_model)

    def refused(self, twin):
        """Who is held or closed is asked nothing."""
        refusal = Held if twin.model.held else Closed
        for act in (twin.row.ask, twin.row.close, twin.row.copied):
            with self.assertRaises(refusal):
                act()

    def act(self, net, act, twin):
        if act == "ask":
            self.assertEqual(twin.row.ask(), twin.model.tell())
        elif act == "take":
            for _ in range(12):
                self.assertEqual(twin.row.ask(), twin.model.tell())
        elif act == "look":
            self.assertEqual(twin.row.look(), twin.model.look())
        elif act == "split":
            net.split(twin)
        elif act == "group":
            if not twin.model.groups:
                with self.assertRaises(NoGroup):
                    twin.row.group()
                self.assertEqual(twin.row.ask(), twin.model.tell())
            if twin.model.groups:
                net.group(twin)
        elif act == "copy":
            if twin.model.may_copy():
                net.copy(twin)
            else:
                with self.assertRaises(NoCopy):
                    twin.row.copied()
        elif act == "close":
            twin.row.close()
            twin.model.shut()

    def act_by_chance(self, net):
        act = net.chance.one_of(ACTS)
        free = net.free()
        twins = [twin for twin in free if isinstance(twin.row, SORT_OF.get(act, Row))]
        if act == "refused":
            twins = [twin for twin in net.twins if twin not in free]
        if act == "grow":
            net.grow()
        elif act == "plan" and len(net.twins) < 150:
            net.grow_plan()
        elif twins and act == "refused":
            self.refused(net.chance.one_of(twins))
        elif twins and len(net.twins) < 150:
            self.act(net, act, net.chance.one_of(twins))

    def grown(self, seed, many):
        net = Net(seed, scripts(Chance(seed + 1), 6))
        for _ in range(many):
            self.act_by_chance(net)
        return net

    def test_whatever_is_done_in_any_order(self):
        for seed in range(500):
            with self.subTest(seed=seed):
                net = Net(seed, scripts(Chance(seed + 1), 6))
                for _ in range(60):
                    self.act_by_chance(net)
                    self.agree(net)

    def test_all_are_asked_to_the_end_and_closed(self):
        for seed in range(500, 650):
            with self.subTest(seed=seed):
                net = self.grown(seed, 50)
                self.agree(net)
                for twin in net.free():
                    answers = [twin.model.tell() for _ in range(60)]
                    gifts, last = taken(twin.row, 60)
                    told = [("gift", gift) for gift in gifts] + ([] if last is None else [last])
                    self.assertEqual(told, answers[:len(told)])
                self.agree(net)
                for twin in net.free():
                    twin.row.close()
                    twin.model.shut()
                    self.agree(net)
                closings = [name for name, what in net.log if what == "closed"]
                self.assertGreaterEqual(len(closings), 6)

    def test_sources_are_the_very_ones(self):
        for seed in range(650, 710):
            with self.subTest(seed=seed):
                net = self.grown(seed, 40)
                known = {id(twin.model): twin.row for twin in net.twins}
                for twin in net.twins:
                    expected = [known.get(id(source)) for source in twin.model.sources()]
                    for source, row in zip(sources_of(twin.row), expected, strict=True):
                        self.assertIs(source, row)

    def test_a_fault_is_told_once(self):
        """Of all rows that are asked to the end: behind its last answer each
        one tells the end alone, and nobody is asked."""
        for seed in range(710, 770):
            with self.subTest(seed=seed):
                net = self.grown(seed, 50)
                for twin in net.free():
                    taken(twin.row, 200)
                    many = len(net.log)
                    if twin.row.is_over():
                        self.assertEqual(taken(twin.row, 3), ([], ("end",)))
                        self.assertEqual(len(net.log), many)

    def test_the_nets_are_not_too_plain(self):
        """What the tests above lean on: all that may happen does so."""
        seen = {}
        for seed in range(60):
            net = self.grown(seed, 60)
            for twin in net.twins:
                name = twin.row.__class__.__name__
                seen[name] = seen.get(name, 0) + 1
                if isinstance(twin.row, Spare) and twin.row.noted() is not None:
                    seen["noted"] = seen.get("noted", 0) + 1
            seen["deep"] = max(seen.get("deep", 0), max(twin.model.depth() for twin in net.twins))
        for name in ("Turned", "Sieved", "Cut", "Left", "Upto", "Chained", "Beside", "Ahead",
                     "Windows", "Groups", "Group", "Reader", "Spare", "Wanted", "ToldBy", "Listed",
                     "Counted", "noted"):
            self.assertGreaterEqual(seen.get(name, 0), 5, name)
        self.assertGreaterEqual(seen["deep"], 7)
