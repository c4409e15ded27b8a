"""Desks that are told whatever comes: they answer as models kept by names."""

import unittest

from giftstreams.desk import Desk
from giftstreams.errors import (
    Closed, GiftError, Held, NoCopy, NoGroup, NoKind, NoName, NoRow)
from giftstreams.plantexts import plan_text
from tests import model
from tests.plan_kit import WORDS, Planner, model_of, parts_of

NAMES = ["a", "b", "c", "d", "e", "f", "ask", "row"]
ACTS = ["ask"] * 7 + ["grow"] * 5 + ["look"] * 3 + [
    "split", "split", "group", "group", "copy", "close", "kept", "drawn", "stands", "stands"]


def gift_text(gift):
    """Python's own way to show tuples, with its signs changed."""
    return repr(gift).replace(",)", ")").replace(",", "")


def answer_text(answer):
    return f"gift {gift_text(answer[1])}" if answer[0] == "gift" else " ".join(answer)


class ModelDesk:
    """What a desk would tell, or with what it would refuse."""

    def __init__(self):
        self.models = {}

    def say(self, act, news, names, plan):
        if any(name not in self.models for name in names) or len(set(news)) < len(news):
            raise NoName
        kept = [self.models[name] for name in names]
        text, made = getattr(self, act)(kept, news, plan)
        self.models.update(zip(news, made))
        return text

    def want_free(self, likened):
        if any(one.held for one in likened) or len({id(one) for one in likened}) < len(likened):
            raise Held
        if any(one.closed for one in likened):
            raise Closed

    def want_kind(self, one, kind):
        if type(one) is not kind:
            raise NoKind

    def grow(self, kept, news, plan):
        named = [part[1] for _, part in parts_of(plan) if part[0] == "row"]
        if any(place >= len(kept) for place in named):
            raise NoRow
        self.want_free([kept[place] for place in named])
        return "ok", [model_of(plan, kept)]

    def ask(self, kept, news, plan):
        self.want_free(kept)
        return answer_text(kept[0].tell()), []

    def look(self, kept, news, plan):
        self.want_kind(kept[0], model.MAhead)
        self.want_free(kept)
        return answer_text(kept[0].look()), []

    def split(self, kept, news, plan):
        self.want_free(kept)
        return "ok", model.split(kept[0], len(news))

    def group(self, kept, news, plan):
        self.want_kind(kept[0], model.MGroups)
        self.want_free(kept)
        if not kept[0].groups:
            raise NoGroup
        return "ok", [kept[0].groups[-1]]

    def copy(self, kept, news, plan):
        self.want_free(kept)
        if not kept[0].may_copy():
            raise NoCopy
        return "ok", [model.copied(kept[0])]

    def close(self, kept, news, plan):
        self.want_free(kept)
        kept[0].shut()
        return "ok", []

    def kept(self, kept, news, plan):
        self.want_kind(kept[0], model.MReader)
        return " ".join(gift_text(gift) for gift in kept[0].shared.kept()), []

    def drawn(self, kept, news, plan):
        return " ".join(str(source.drawn) for source in kept[0].sources()), []

    def stands(self, kept, news, plan):
        one = kept[0]
        words = [("over", one.over), ("closed", one.closed), ("held", one.held)]
        return " ".join(word for word, is_so in words if is_so), []


def saying(chance):
    """A row of words, and what it says."""
    act = chance.one_of(ACTS)
    names = [chance.one_of(NAMES)]
    if act == "grow":
        names = [chance.one_of(NAMES) for _ in range(chance.below(4))]
        planner = Planner(chance.below(10 ** 6), WORDS, len(names) + chance.below(8) // 7)
        plan = planner.plan(1 + chance.below(6))
        # Rows that can be looked at and groups, more often than they come.
        plan = chance.one_of([plan, ("ahead", plan), ("marks", 2, plan)])
        new = chance.one_of(NAMES)
        words = ["grow", new, str(len(names)), *names, plan_text(plan)]
        return " ".join(words), (act, [new], names, plan)
    news = []
    if act in ("copy", "group"):
        news = [chance.one_of(NAMES)]
        return " ".join([act, *news, *names]), (act, news, names, None)
    if act == "split":
        news = [chance.one_of(NAMES) for _ in range(1 + chance.below(3))]
    return " ".join([act, *names, *news]), (act, news, names, None)


class DeskNetsTest(unittest.TestCase):

    def told(self, say, *things):
        try:
            return say(*things)
        except GiftError as refusal:
            return type(refusal)

    def test_whatever_is_said(self):
        seen = {}
        for seed in range(200):
            chance = model.Chance(seed)
            desk, models = Desk(), ModelDesk()
            rows = []
            for _ in range(120):
                row, said = saying(chance)
                rows.append(row)
                if said[0] == "grow" and any(
                        models.models[name].depth() > 12 for name in said[2] if name in models.models):
                    continue
                with self.subTest(seed=seed, rows=rows):
                    told = self.told(desk.say, row)
                    self.assertEqual(told, self.told(models.say, *said))
                key = (said[0], told if isinstance(told, type) else "told")
                seen[key] = seen.get(key, 0) + 1
        # The test leans on this: each row of words was often answered, and
        # refused in each way.
        for act in ACTS:
            self.assertGreaterEqual(seen[(act, "told")], 20, act)
        for key in (("grow", NoRow), ("grow", Held), ("grow", Closed), ("grow", NoName), ("ask", Held),
                    ("ask", Closed), ("look", NoKind), ("look", Held), ("group", NoGroup),
                    ("group", NoKind), ("copy", NoCopy), ("copy", Held), ("close", Held),
                    ("close", Closed), ("split", Held), ("split", NoName), ("kept", NoKind)):
            self.assertGreaterEqual(seen.get(key, 0), 3, key)
