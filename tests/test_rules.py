"""Rules and tests: which things are such, and what they tell."""

import itertools
import unittest

from giftstreams.rules import is_rule, is_test, rule_told, test_told
from giftstreams.sources import Listed
from tests.helpers import GREAT, Thing, no_wholes

ONE_RULE = (("add", 2),)
ONE_TEST = (("below", 5),)

RULES = [
    (), ONE_RULE, (("add", 0),), (("add", -7),), (("add", GREAT),), (("times", 3),),
    (("times", 0),), (("times", -GREAT),), (("rest", 1),), (("rest", 2),), (("rest", GREAT),),
    (("one",),), (("sum",),), (("one",), ("one",), ("sum",), ("add", 1)),
    tuple(("add", k) for k in range(60)), (("add", 1), ("add", 1))]

TESTS = [
    (), ONE_TEST, (("below", 0),), (("below", -GREAT),), (("rest", 1, 0),), (("rest", 2, 0),),
    (("rest", 2, 1),), (("rest", GREAT, GREAT - 1),), (("after", (), ()),),
    (("after", ONE_RULE, ONE_TEST),), (("after", RULES[13], ()),), (("after", (), ONE_TEST),),
    (("after", ONE_RULE, (("after", ONE_RULE, (("rest", 2, 1), ("below", 1))),)),),
    (("rest", 3, 2), ("below", 7), ("after", (("sum",),), (("rest", 2, 0),))),
    tuple(("below", k) for k in range(60))]

NO_RULE_PARTS = [
    (), ("add",), ("add", 1, 2), ("add", (1,)), ["add", 1], ("times",), ("times", 1, 1), ("rest",),
    ("rest", 0), ("rest", -1), ("rest", -GREAT), ("rest", 2, 1), ("one", 1), ("one", ()), ["one"],
    ("sum", 1), ("sum", ()), ["sum"], ("below", 1), ("after", (), ()), ("Add", 1), ("add ", 1),
    ("", 1), ("",), (1, "add"), ("add", "1"), (("add",), 1), (("add", 1),), (["add"], 1),
    ({}, 1), (None, 1), (None,), (b"add", 1), ("adds", 1), ("mark", 2), "add", ("a", "d", "d"),
    ("list", (1,))]

NO_TEST_PARTS = [
    (), ("below",), ("below", 1, 2), ("below", (1,)), ["below", 1], ("rest",), ("rest", 2),
    ("rest", 2, 2), ("rest", 2, 3), ("rest", 2, -1), ("rest", 0, 0), ("rest", -2, -1),
    ("rest", -2, 0), ("rest", 1, 1), ("rest", 2, 1, 0), ["rest", 2, 1], ("rest", GREAT, GREAT),
    ("rest", (2,), 1), ("rest", 2, (1,)), ("after",), ("after", ()), ("after", (), (), ()),
    ("after", [], ()), ("after", (), []), ("after", ONE_TEST, ONE_RULE), ("after", 1, ()),
    ("after", (), 1), ("after", ("add", 2), ()), ("after", (), ("below", 5)),
    ("after", (["add", 2],), ()), ("after", (), (["below", 2],)), ("after", (("rest", 0),), ()),
    ("after", (), (("rest", 2, 2),)), ["after", (), ()],
    ("after", (), (("after", (), (("after", (("one", 1),), ()),)),)), ("add", 1), ("one",), ("sum",),
    ("Below", 1), ("below ", 1), ("", 1), (1, "below"), ("below", "1"), ([], 1), (None, 1),
    (b"below", 1), "below", ("list", (1,))]


def no_tuples():
    """Things of which none is a tuple."""
    return [
        None, True, False, 0, 1, -1, "", "add", "one", b"", [], [("add", 1)], [("one",)],
        [("below", 1)], {}, {("one",): 1}, set(), {("one",)}, Thing(), Thing, tuple, range(0),
        range(2), iter([]), iter([("one",)]), (part for part in ()), lambda: (), Listed([1]),
        Listed([])]


class KindsTest(unittest.TestCase):

    def tells(self, tell, thing, expected):
        before = repr(thing)
        self.assertIs(tell(thing), expected, thing)
        self.assertEqual(repr(thing), before)

    def test_rules_and_tests(self):
        for rule in RULES:
            self.tells(is_rule, rule, True)
            self.tells(is_test, rule, rule == ())
        for test in TESTS:
            self.tells(is_test, test, True)
            self.tells(is_rule, test, test == ())

    def test_what_is_no_tuple(self):
        for thing in no_tuples():
            with self.subTest(thing=thing):
                self.assertIs(is_rule(thing), False)
                self.assertIs(is_test(thing), False)

    def test_a_wrong_part_at_any_place(self):
        for part in [*NO_RULE_PARTS, *no_tuples()]:
            for at in range(3):
                rule = [("add", 1), ("one",)]
                rule.insert(at, part)
                with self.subTest(part=part, at=at):
                    self.assertIs(is_rule(tuple(rule)), False)
                    self.assertIs(is_rule((part,)), False)
                    self.assertIs(is_test((("after", tuple(rule), ()),)), False)
        for part in [*NO_TEST_PARTS, *no_tuples()]:
            for at in range(3):
                test = [("below", 1), ("rest", 2, 1)]
                test.insert(at, part)
                with self.subTest(part=part, at=at):
                    self.assertIs(is_test(tuple(test)), False)
                    self.assertIs(is_test((part,)), False)
                    self.assertIs(is_test((("after", (), tuple(test)),)), False)

    def test_a_part_alone_is_no_rule_and_no_test(self):
        for part in [part for rule in RULES for part in rule]:
            self.assertIs(is_rule(part), False)
        for part in [part for test in TESTS for part in test]:
            self.assertIs(is_test(part), False)

    def test_what_is_no_whole_number_at_each_place(self):
        for thing in no_wholes():
            with self.subTest(thing=thing):
                for part in (("add", thing), ("times", thing), ("rest", thing)):
                    self.assertIs(is_rule((part,)), False)
                for part in (("below", thing), ("rest", thing, 0), ("rest", 2, thing),
                             ("rest", thing, thing)):
                    self.assertIs(is_test((part,)), False)

    def test_bounds_of_a_rest(self):
        for m in range(-3, 6):
            self.assertIs(is_rule((("rest", m),)), m >= 1)
            for r in range(-3, 7):
                self.assertIs(is_test((("rest", m, r),)), 0 <= r < m)

    def test_nested_deep(self):
        test = ONE_TEST
        wrong = (("below", True),)
        for _ in range(6):
            test = (("after", ONE_RULE, test),)
            wrong = (("after", ONE_RULE, wrong),)
        self.assertIs(is_test(test), True)
        self.assertIs(is_test(wrong), False)
        rule = (("add", 1),)
        for _ in range(6):
            rule = (rule,)
            self.assertIs(is_rule(rule), False)
            self.assertIs(is_test(rule), False)


# A rule, a gift, what it makes of it.
TOLD = [
    ((), 5, 5),
    ((), (1, (2, ())), (1, (2, ()))),
    ((("add", 3),), 4, 7),
    ((("add", -3),), 1, -2),
    ((("add", 3),), (1, (2, -3), ()), (4, (5, 0), ())),
    ((("add", 3),), (), ()),
    ((("times", 3),), -4, -12),
    ((("times", 0),), (1, (2,)), (0, (0,))),
    ((("times", -2),), (1, (2, -3), ()), (-2, (-4, 6), ())),
    ((("times", 5),), (), ()),
    ((("rest", 3),), 7, 1),
    ((("rest", 3),), 3, 0),
    ((("rest", 3),), 0, 0),
    ((("rest", 3),), -1, 2),
    ((("rest", 3),), -3, 0),
    ((("rest", 1),), -7, 0),
    ((("rest", 10),), (-1, (11, (-20,)), ()), (9, (1, (0,)), ())),
    ((("rest", 2),), (), ()),
    ((("one",),), 4, (4,)),
    ((("one",),), (), ((),)),
    ((("one",),), (1, (2,)), ((1, (2,)),)),
    ((("sum",),), 4, 4),
    ((("sum",),), -4, -4),
    ((("sum",),), (), 0),
    ((("sum",),), ((), ((),)), 0),
    ((("sum",),), (1, (2, (-7, (4,))), 10), 10),
    ((("add", 1), ("times", 3)), 2, 9),
    ((("times", 3), ("add", 1)), 2, 7),
    ((("one",), ("one",), ("add", 1)), 2, ((3,),)),
    ((("one",), ("sum",)), (1, 2), 3),
    ((("sum",), ("one",)), (1, 2), (3,)),
    ((("add", 1), ("sum",)), (1, 2, (3,)), 9),
    ((("sum",), ("add", 1)), (1, 2, (3,)), 7),
    ((("add", 1), ("sum",)), (), 0),
    ((("sum",), ("add", 1)), (), 1),
    ((("rest", 4), ("sum",), ("rest", 3), ("one",), ("times", -1)), (5, (6, -1)), (0,)),
    ((("times", GREAT), ("add", GREAT)), GREAT, GREAT * GREAT + GREAT)]


class RuleToldTest(unittest.TestCase):

    def test_each_part_and_several(self):
        for rule, gift, made in TOLD:
            with self.subTest(rule=rule, gift=gift):
                before = repr((rule, gift))
                self.assertEqual(repr(rule_told(rule, gift)), repr(made))
                self.assertEqual(repr((rule, gift)), before)

    def test_one_behind_the_other(self):
        parts = [("add", 2), ("times", -3), ("rest", 4), ("one",), ("sum",)]
        for gift in (5, -6, (), (1, (2, -9))):
            for rule in itertools.product(parts, repeat=3):
                made = gift
                for part in rule:
                    made = rule_told((part,), made)
                self.assertEqual(rule_told(rule, gift), made)

    def test_rests_lie_from_nought_on(self):
        for m in range(1, 8):
            for number in range(-20, 21):
                rest = rule_told((("rest", m),), number)
                self.assertTrue(0 <= rest < m and (number - rest) % m == 0)

    def test_gifts_nested_deep(self):
        gift, made = 1, -1
        for _ in range(59):
            gift, made = (gift, 1), (made, -1)
        self.assertEqual(rule_told((("times", -1),), gift), made)
        self.assertEqual(rule_told((("sum",),), gift), 60)
        self.assertEqual(rule_told((("one",),), gift), (gift,))

    def test_six_hundred_numbers(self):
        gift = tuple(tuple(range(at, at + 60)) for at in range(0, 600, 60))
        self.assertEqual(rule_told((("sum",),), gift), sum(range(600)))
        self.assertEqual(
            rule_told((("add", 1),), gift),
            tuple(tuple(range(at + 1, at + 61)) for at in range(0, 600, 60)))


class TestToldTest(unittest.TestCase):

    def told(self, test, gift, expected):
        before = repr((test, gift))
        self.assertIs(test_told(test, gift), expected)
        self.assertEqual(repr((test, gift)), before)

    def test_the_empty_one_holds(self):
        for gift in (0, -1, (), (1, (2,))):
            self.told((), gift, True)

    def test_the_rest_of_the_sum(self):
        for m in range(1, 6):
            for r in range(m):
                for number in range(-12, 13):
                    self.told((("rest", m, r),), number, (number - r) % m == 0)
                    self.told((("rest", m, r),), (number, (1, ()), -1), (number - r) % m == 0)
        self.told((("rest", 5, 0),), (), True)
        self.told((("rest", 5, 1),), (), False)
        self.told((("rest", 5, 0),), (3, (1, 1)), True)

    def test_the_sum_below(self):
        for c in (-2, -1, 0, 1, 2):
            for number in range(-4, 5):
                self.told((("below", c),), number, number < c)
                self.told((("below", c),), (5, (number,), -5), number < c)
            self.told((("below", c),), (), 0 < c)
        self.told((("below", GREAT),), GREAT, False)
        self.told((("below", GREAT + 1),), (GREAT, 0), True)

    def test_what_the_rule_makes_of_it(self):
        test = (("after", (("times", 2), ("add", 1)), (("below", 8),)),)
        for number in range(-3, 9):
            self.told(test, number, 2 * number + 1 < 8)
        self.told(test, (1, 1), True)
        self.told(test, (2, 2), False)
        self.told((("after", (("one",), ("sum",)), (("rest", 3, 2),)),), (1, (4,)), True)
        self.told((("after", (), (("below", 1),)),), 1, False)
        self.told((("after", (("add", 1),), ()),), 1, True)

    def test_after_within_after(self):
        inner = (("after", (("times", 3),), (("below", 10),)),)
        test = (("after", (("add", 1),), inner),)
        for number in range(-2, 6):
            self.told(test, number, (number + 1) * 3 < 10)
        turned_about = (("after", (("times", 3),), (("after", (("add", 1),), (("below", 10),)),)),)
        for number in range(-2, 6):
            self.told(turned_about, number, number * 3 + 1 < 10)
        test = (("below", 1),)
        for _ in range(9):
            test = (("after", (("add", 1),), test),)
        self.told(test, -9, True)
        self.told(test, -8, False)

    def test_all_parts_have_to_hold(self):
        parts = [("rest", 2, 0), ("below", 5), ("after", (("add", 3),), (("rest", 3, 1),))]
        for many in range(1, 4):
            for test in itertools.product(parts, repeat=many):
                for number in range(-6, 9):
                    expected = all(test_told((part,), number) for part in test)
                    self.told(test, number, expected)
        self.told(tuple(parts), 4, True)
        self.told(tuple(parts), -2, True)
        self.told(tuple(parts), 2, False)
        self.told(tuple(parts), 1, False)
        self.told(tuple(parts), 10, False)

    def test_a_gift_itself_is_not_changed_for_the_parts_behind_after(self):
        self.told((("after", (("add", 10),), (("rest", 2, 1),)), ("below", 4)), 3, True)
        self.told((("after", (("sum",),), ()), ("below", 4)), (1, (1,)), True)
