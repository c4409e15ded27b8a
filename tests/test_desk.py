"""A desk: what it answers to each row of words, and what it refuses."""

import unittest

from giftstreams.desk import Desk
from giftstreams.errors import (
    Closed, GiftError, Held, NoCopy, NoGroup, NoKind, NoName, NoRow, NoSay)
from giftstreams.plantexts import plan_text
from tests.plan_kit import PLANS, deep_plan, wide_plan
from tests.test_plantexts import NO_TEXTS
from tests.test_spares import no_texts

# Rows that begin with a word of their own, with too few and too many names.
OF_ONE_NAME = ["ask", "look", "close", "kept", "drawn", "stands"]
OF_TWO_NAMES = ["copy", "group"]


class DeskTest(unittest.TestCase):

    def setUp(self):
        self.desk = Desk()

    def says(self, *rows):
        """Each row is a pair: what is said, and the answer."""
        for row, answer in rows:
            told = self.desk.say(row)
            self.assertIs(type(told), str)
            self.assertEqual(told, answer, row)

    def grow(self, *rows):
        for row in rows:
            self.says((f"grow {row}", "ok"))

    def refuses(self, refusal, *rows):
        for row in rows:
            with self.subTest(row=row):
                with self.assertRaises(refusal) as caught:
                    self.desk.say(row)
                self.assertIs(type(caught.exception), refusal)


class GrowTest(DeskTest):

    def test_grown_of_nothing(self):
        self.grow("a 0 list 2 5 -1")
        self.says(("ask a", "gift 5"), ("ask a", "gift -1"), ("ask a", "end"), ("ask a", "end"))

    def test_grown_upon_names(self):
        self.grow("a 0 list 2 5 -1", "b 0 count 10 1 9", "c 2 b a beside 2 row 0 row 1")
        self.says(("ask c", "gift (10 5)"), ("ask c", "gift (11 -1)"), ("ask c", "end"),
                  ("drawn c", "3 3"))

    def test_more_names_than_the_plan_names(self):
        self.grow("a 0 list 1 1", "b 0 list 1 2", "c 3 a b a ahead row 1")
        self.says(("stands a", ""), ("stands b", "held"), ("ask c", "gift 2"), ("ask a", "gift 1"))

    def test_that_very_row(self):
        self.grow("a 0 list 2 1 2", "b 1 a row 0")
        self.says(("ask a", "gift 1"), ("ask b", "gift 2"), ("stands a", ""), ("close b", "ok"),
                  ("stands a", "closed"))

    def test_each_plan(self):
        plans = [plan for plan in PLANS if "row" not in plan_text(plan)]
        for plan in [*plans, deep_plan(20)]:
            self.grow(f"a 0 {plan_text(plan)}")
            self.assertIn(self.desk.say("ask a").split(" ")[0], ("gift", "end", "fault"))
        self.grow("x 0 list 1 1", "y 0 list 1 2", f"w 2 x y {plan_text(wide_plan())}")
        self.says(("ask w", "gift (3 3 1)"))

    def test_sixty_names(self):
        for first in "abcde":
            for second in "abcdefghijkl":
                self.grow(f"{first}{second} 0 list 1 {ord(first) * 100 + ord(second)}")
        names = " ".join(f"{first}{second}" for first in "abcde" for second in "abcdefghijkl")
        self.grow(f"all 60 {names} beside 2 row 59 row 0")
        self.says(("ask all", "gift (10208 9797)"))
        self.refuses(NoSay, f"grow all 61 {names} aa beside 2 row 59 row 0")

    def test_names_that_are_words_of_plans_and_of_rows(self):
        self.grow("grow 0 list 1 1", "ask 0 list 1 2", "row 0 list 1 3", "list 0 list 1 4",
                  "split 4 list row ask grow chain 4 row 3 row 2 row 1 row 0")
        self.says(("ask split", "gift 1"), ("ask split", "gift 2"), ("ask split", "gift 3"),
                  ("stands ask", "over held"), ("split split look kept", "ok"),
                  ("ask look", "gift 4"), ("kept kept", "4"), ("copy copy kept", "ok"),
                  ("close copy", "ok"), ("ask kept", "gift 4"))

    def test_names_of_one_and_of_eight_letters(self):
        self.grow("z 0 list 0", "abcdefgh 0 list 0", "zzzzzzzz 1 z ahead row 0")
        self.says(("ask abcdefgh", "end"), ("look zzzzzzzz", "end"))

    def test_a_name_told_anew_takes_its_place(self):
        self.grow("a 0 list 1 1", "a 0 list 1 2")
        self.says(("ask a", "gift 2"))
        self.grow("a 1 a turn 1 times 3 row 0")
        self.says(("ask a", "end"), ("drawn a", "2"))

    def test_the_row_that_had_it_goes_on_where_it_is_held(self):
        self.grow("a 0 list 2 1 2", "b 1 a ahead row 0", "a 0 list 1 9")
        self.says(("ask b", "gift 1"), ("ask a", "gift 9"), ("ask b", "gift 2"), ("ask b", "end"),
                  ("close b", "ok"), ("stands a", ""))

    def test_refused_as_growing_refuses(self):
        self.grow("a 0 list 1 1", "b 0 list 1 2", "c 0 list 1 3", "held 0 list 1 4",
                  "h 1 held ahead row 0", "shut 0 list 1 5")
        self.says(("close shut", "ok"))
        self.refuses(NoRow, "grow n 0 row 0", "grow n 1 a row 1", "grow n 2 a b row 59",
                     "grow n 1 held beside 2 row 0 row 1", "grow n 1 shut chain 2 row 1 row 0")
        self.refuses(Held, "grow n 1 held row 0", "grow n 1 a beside 2 row 0 row 0",
                     "grow n 2 a a beside 2 row 0 row 1", "grow n 2 shut held spare row 0 row 1",
                     "grow n 2 shut shut spare row 0 row 1")
        self.refuses(Closed, "grow n 1 shut row 0", "grow n 2 a shut beside 2 row 0 row 1")
        self.refuses(NoName, "ask n")
        self.says(("stands a", ""), ("ask a", "gift 1"), ("stands shut", "closed"))


class AskAndLookTest(DeskTest):

    def test_gifts(self):
        self.grow("a 0 turn 1 one chain 2 list 1 -7 windows 2 2 list 4 1 2 0 -3",
                  "b 0 windows 2 1 windows 1 1 list 2 1 2", "c 0 beside 2 list 1 1 windows 2 1 list 2 2 3")
        self.says(("ask a", "gift (-7)"), ("ask a", "gift ((1 2))"), ("ask a", "gift ((0 -3))"),
                  ("ask b", "gift ((1) (2))"), ("ask c", "gift (1 (2 3))"), ("ask c", "end"))

    def test_great_numbers(self):
        number = 10 ** 29 + 7
        self.grow(f"a 0 turn 2 times {number} times -{number} list 2 {number} 0")
        self.says(("ask a", f"gift -{number ** 3}"), ("ask a", "gift 0"))

    def test_ends_and_faults(self):
        self.grow("a 0 broken 1 3 torn", "b 0 wanted 2 few list 1 4", "c 0 cut 0 list 0")
        self.says(("ask a", "gift 3"), ("ask a", "fault torn"), ("ask a", "end"), ("ask b", "gift 4"),
                  ("ask b", "fault few"), ("ask b", "end"), ("ask c", "end"))

    def test_looks(self):
        self.grow("a 0 ahead windows 1 2 list 3 1 2 3", "f 0 ahead broken 0 torn")
        self.says(("look a", "gift (1)"), ("look a", "gift (1)"), ("drawn a", "1"),
                  ("ask a", "gift (1)"), ("look a", "gift (3)"), ("drawn a", "3"),
                  ("ask a", "gift (3)"), ("stands a", ""), ("look a", "end"), ("stands a", "over"),
                  ("look a", "end"), ("ask a", "end"), ("look f", "fault torn"), ("look f", "end"))

    def test_refusals(self):
        self.grow("a 0 ahead list 1 1", "b 1 a ahead row 0", "c 0 ahead list 0", "l 0 list 1 1",
                  "m 0 list 1 1", "n 1 m ahead row 0")
        self.says(("close c", "ok"), ("close l", "ok"))
        self.refuses(Held, "look a", "ask a", "ask m")
        self.refuses(Closed, "look c", "ask c", "ask l")
        self.refuses(NoKind, "look l", "look m")
        self.refuses(NoName, "look x", "ask x")
        self.says(("look b", "gift 1"))


class SplitTest(DeskTest):

    def test_the_readers_in_order(self):
        self.grow("a 0 list 3 1 2 3")
        self.says(("split a b c d", "ok"), ("stands a", "held"), ("ask b", "gift 1"),
                  ("ask b", "gift 2"), ("kept c", "1 2"), ("ask d", "gift 1"), ("kept b", "1 2"),
                  ("ask c", "gift 1"), ("kept d", "2"), ("close c", "ok"), ("close d", "ok"),
                  ("kept b", ""), ("kept c", ""), ("stands a", "held"), ("close b", "ok"),
                  ("stands a", "closed held"), ("drawn d", "2"))

    def test_one_to_six(self):
        for many in range(1, 7):
            names = " ".join("bcdefg"[:many])
            self.grow("a 0 list 1 1")
            self.says((f"split a {names}", "ok"))
            for name in names.split():
                self.says((f"ask {name}", "gift 1"))
        self.grow("a 0 list 1 1")
        self.refuses(NoSay, "split a", "split", "split a b c d e f g h")
        self.says(("stands a", ""))

    def test_its_own_name_anew(self):
        self.grow("a 0 list 2 1 2")
        self.says(("split a b a", "ok"), ("ask a", "gift 1"), ("kept b", "1"), ("stands a", ""))

    def test_kept_gifts_that_are_tuples(self):
        self.grow("a 0 windows 2 1 list 3 1 2 -3")
        self.says(("split a b c", "ok"), ("ask b", "gift (1 2)"), ("ask b", "gift (2 -3)"),
                  ("kept c", "(1 2) (2 -3)"), ("ask c", "gift (1 2)"), ("kept c", "(2 -3)"))

    def test_kept_of_a_held_a_closed_and_a_copied_one(self):
        self.grow("a 0 list 2 7 8")
        self.says(("split a b c", "ok"), ("ask b", "gift 7"), ("copy d b", "ok"))
        self.grow("e 1 c ahead row 0")
        self.says(("kept c", "7"), ("stands c", "held"), ("close e", "ok"), ("kept c", ""),
                  ("stands c", "closed held"), ("ask b", "gift 8"), ("kept d", "8"))

    def test_refusals(self):
        self.grow("a 0 list 1 1", "b 0 ahead list 1 1", "c 0 list 1 1", "d 1 c ahead row 0")
        self.says(("close a", "ok"))
        self.refuses(Closed, "split a x y")
        self.refuses(Held, "split c x y")
        self.refuses(NoName, "split x y", "split b y y", "split b y z y", "split b X", "split b y-z",
                     "split b abcdefghi", "split b y 1", "ask y")
        self.refuses(NoKind, "kept a", "kept b", "kept c", "kept d")
        self.says(("stands b", ""), ("look b", "gift 1"))


class GroupTest(DeskTest):

    def test_the_newest_group(self):
        self.grow("m 0 marks 2 list 5 1 3 4 6 7")
        self.refuses(NoGroup, "group g m")
        self.refuses(NoName, "ask g")
        self.says(("ask m", "gift 1"), ("group g m", "ok"), ("ask g", "gift 1"), ("ask g", "gift 3"),
                  ("ask g", "end"), ("stands g", "over"), ("drawn g", "3"), ("ask m", "gift 0"),
                  ("group h m", "ok"), ("group again m", "ok"), ("ask h", "gift 4"),
                  ("ask again", "gift 6"), ("ask m", "gift 1"), ("ask h", "end"), ("drawn m", "5"))

    def test_refusals(self):
        self.grow("m 0 marks 2 list 2 1 1", "l 0 list 1 1", "n 0 marks 2 list 1 1", "a 1 n ahead row 0",
                  "k 0 marks 1 list 0", "s 0 list 1 1")
        self.says(("close k", "ok"), ("close l", "ok"), ("ask m", "gift 1"), ("group g m", "ok"),
                  ("split s r", "ok"))
        self.refuses(NoKind, "group x l", "group x g", "group x a", "group x s", "group x r")
        self.refuses(Held, "group x n")
        self.refuses(Closed, "group x k")
        self.refuses(NoCopy, "copy x g")
        self.refuses(NoName, "group x y", "group X m", "group m X", "ask x")
        self.grow("h 1 g ahead row 0")
        self.refuses(NoCopy, "copy x h")
        self.says(("stands g", "held"), ("group g m", "ok"), ("stands g", "held"), ("look h", "gift 1"))


class CopyAndCloseTest(DeskTest):

    def test_copies_go_on_by_themselves(self):
        self.grow("a 0 list 3 1 2 3")
        self.says(("ask a", "gift 1"), ("copy b a", "ok"), ("ask b", "gift 2"), ("ask b", "gift 3"),
                  ("ask a", "gift 2"), ("drawn a", "2"), ("drawn b", "3"), ("close a", "ok"),
                  ("stands b", ""), ("ask b", "end"))

    def test_a_copy_in_its_own_place(self):
        self.grow("a 0 list 3 1 2 3")
        self.says(("ask a", "gift 1"), ("copy a a", "ok"), ("ask a", "gift 2"))

    def test_closing_reaches_all_beneath(self):
        self.grow("a 0 list 0", "b 0 list 0", "c 2 a b chain 2 row 1 ahead row 0")
        self.says(("close c", "ok"), ("stands a", "closed held"), ("stands b", "closed held"),
                  ("stands c", "closed"))

    def test_refusals(self):
        self.grow("a 0 list 0", "b 1 a ahead row 0", "c 0 list 0")
        self.says(("close c", "ok"))
        self.refuses(Held, "copy x a", "close a")
        self.refuses(Closed, "copy x c", "close c")
        self.refuses(NoName, "copy x y", "copy x1 b", "copy b x1", "close y", "close B", "ask x")
        self.says(("stands b", ""), ("stands a", "held"))


class StandsAndDrawnTest(DeskTest):

    def test_stands(self):
        self.grow("a 0 list 0")
        self.says(("stands a", ""), ("ask a", "end"), ("stands a", "over"))
        self.grow("b 1 a ahead row 0")
        self.says(("stands a", "over held"), ("close b", "ok"), ("stands a", "over closed held"),
                  ("stands b", "closed"))
        self.grow("c 0 list 0", "d 0 list 0", "e 1 d ahead row 0")
        self.says(("ask c", "end"), ("close c", "ok"), ("stands c", "over closed"),
                  ("stands d", "held"), ("close e", "ok"), ("stands d", "closed held"))

    def test_drawn(self):
        self.grow("a 0 list 2 1 2", "n 0 chain 0", "b 1 a chain 3 row 0 count 5 1 2 broken 0 torn")
        self.says(("drawn b", "0 0 0"), ("drawn n", ""), ("ask b", "gift 1"), ("drawn b", "1 0 0"),
                  ("ask b", "gift 2"), ("ask b", "gift 5"), ("drawn b", "3 1 0"), ("drawn a", "3"),
                  ("ask b", "gift 6"), ("ask b", "fault torn"), ("ask b", "end"),
                  ("drawn b", "3 3 1"), ("close b", "ok"), ("drawn b", "3 3 1"), ("drawn a", "3"))

    def test_drawn_of_readers_and_groups(self):
        self.grow("a 0 beside 2 list 2 1 2 count 0 1 9")
        self.says(("split a b c", "ok"), ("ask b", "gift (1 0)"))
        self.grow("d 2 c b chain 3 row 0 row 1 list 0", "m 0 marks 1 list 1 4")
        self.says(("drawn d", "1 1 0"), ("drawn c", "1 1"), ("ask m", "gift 0"), ("group g m", "ok"),
                  ("drawn g", "1"))

    def test_no_names(self):
        self.refuses(NoName, "drawn a", "stands a", "stands A", "drawn abcdefghi")


class NoSayTest(DeskTest):

    def setUp(self):
        DeskTest.setUp(self)
        self.grow("a 0 list 2 1 2", "h 0 list 1 1", "b 1 h ahead row 0")

    def test_what_is_no_text(self):
        self.refuses(NoSay, *no_texts(), ["ask", "a"], ("ask", "a"), b"ask a")

    def test_none_of_these_rows(self):
        self.refuses(NoSay, "", " ", "  ", "a", "Ask a", "ASK a", "tell a", "asks a", "as a", "1 a",
                     "ok", "list 0", "row 0", "say ask a", "held a", "over a", "beneath a",
                     "sources a", "taken a 3", "names", "place b", "noted a")

    def test_words_too_few_or_too_many(self):
        for word in OF_ONE_NAME:
            self.refuses(NoSay, word, f"{word} a b", f"{word} a a a", f"{word} x y", f"{word} A B")
        for word in OF_TWO_NAMES:
            self.refuses(NoSay, word, f"{word} x", f"{word} a", f"{word} x a b", f"{word} X A B C")
        self.refuses(NoSay, "grow", "grow x", "grow x 0", "grow x 1", "grow x 1 a", "grow x list 0",
                     "grow 0 list 0", "grow x 1 list 0", "grow x 2 a row 0", "grow x 0 a row 0",
                     "grow x 1 a b row 0", "grow x 3 a row 0", "grow x 60 a row 0")
        self.says(("ask a", "gift 1"))

    def test_blanks(self):
        rows = ["ask a", "look b", "split a x y", "copy x a", "group x a", "close a", "kept a",
                "drawn a", "stands a", "grow x 0 list 1 1", "grow x 1 a row 0"]
        for row in rows:
            self.refuses(NoSay, " " + row, row + " ", row.replace(" ", "  "), row.replace(" ", "  ", 1),
                         row.replace(" ", "\t"), "\n" + row)
            at = row.rindex(" ")
            self.refuses(NoSay, row[:at] + " " + row[at:])
        self.says(("stands a", ""), ("ask a", "gift 1"))

    def test_how_k_is_written(self):
        for k in ("00", "01", "+1", "-0", "-1", "1.0", "one", "a", "0x1", "61", "100", "1" * 30, "-",
                  "1_0", "--1", "(1)"):
            self.refuses(NoSay, f"grow x {k} a row 0", f"grow x {k} row 0", f"grow x {k} list 0",
                         f"grow X {k} A row 0")
        names = " ".join(["a"] * 61)
        self.refuses(NoSay, f"grow x 61 {names} row 0")
        self.grow(f"x 60 {names[:-2]} list 1 4")

    def test_what_should_be_a_plans_text(self):
        for text in NO_TEXTS:
            self.refuses(NoSay, f"grow x 0 {text}", f"grow x 1 a {text}", f"grow X 1 A {text}")
        self.refuses(NoName, "ask x")
        self.says(("stands a", ""))


class OrderTest(DeskTest):

    def setUp(self):
        DeskTest.setUp(self)
        self.grow("a 0 list 2 1 2", "h 0 list 1 1", "b 1 h ahead row 0", "s 0 list 1 1")
        self.says(("close s", "ok"))

    def test_names(self):
        for name in ("A", "aB", "abcdefghi", "a1", "1", "a-b", "a_", "_", "-", "(a)", "a.", "0"):
            self.refuses(NoName, f"ask {name}", f"look {name}", f"close {name}", f"kept {name}",
                         f"drawn {name}", f"stands {name}", f"copy {name} a", f"copy x {name}",
                         f"group {name} a", f"group x {name}", f"split {name} x", f"split a {name}",
                         f"split a x {name} y", f"grow {name} 0 list 0", f"grow x 1 {name} row 0",
                         f"grow x 2 a {name} list 0", f"grow {name} 1 {name} row 0")
        self.says(("stands a", ""))

    def test_a_name_by_which_nothing_is_kept(self):
        self.refuses(NoName, "ask x", "copy x y", "grow x 1 y row 0", "grow x 2 a y row 0",
                     "grow x 2 y a list 0", "grow x 1 x row 0", "split x y", "split x x")

    def test_a_new_name_that_is_the_same_as_one_ahead(self):
        self.refuses(NoName, "split a x x", "split a x y x", "split a a a", "split a u v w x y u")
        self.says(("stands a", ""))

    def test_no_say_ahead_of_no_name(self):
        self.refuses(NoSay, "ask A b", "split A", "split A b c d e f g h", "copy A", "grow A 0 list",
                     "grow A 61 list 0", "grow A 1 B row 60", "grow A 0 list 1", "look  A")

    def test_no_name_ahead_of_no_kind_and_all_else(self):
        self.refuses(NoName, "group X a", "group X h", "group X s", "copy X h", "copy X s",
                     "split h x x", "split s X", "split h X", "grow X 1 h row 0", "grow X 1 s row 0",
                     "grow X 0 row 0", "grow x 2 h y row 0", "grow x 1 y row 5", "grow X 1 a row 5")

    def test_no_kind_ahead_of_held_and_closed(self):
        self.refuses(NoKind, "look h", "look s", "group x h", "group x s", "kept h", "kept s",
                     "group x b", "look a", "group x a", "kept a", "kept b")
        self.grow("m 0 marks 2 list 1 1", "k 0 marks 2 list 1 1", "n 1 m ahead row 0")
        self.says(("close k", "ok"), ("look b", "gift 1"))
        self.refuses(Held, "group x m")
        self.refuses(Closed, "group x k")

    def test_no_row_ahead_of_held_ahead_of_closed(self):
        self.refuses(NoRow, "grow x 2 h s beside 3 row 0 row 1 row 2")
        self.refuses(Held, "grow x 2 s h beside 2 row 0 row 1")
        self.refuses(Closed, "grow x 2 s a beside 2 row 0 row 1")

    def test_what_is_refused_changes_nothing(self):
        self.grow("r 0 list 1 8")
        self.says(("split r p q", "ok"), ("ask p", "gift 8"))
        names = ["a", "h", "b", "s", "p", "q", "r"]

        def stand():
            told = [self.desk.say(f"stands {name}") for name in names]
            told += [self.desk.say(f"drawn {name}") for name in names]
            return told + [self.desk.say("kept q")]

        before = stand()
        for row in ("grow a 1 h row 0", "grow a 2 p q beside 3 row 0 row 1 row 2", "ask h", "ask s",
                    "copy a h", "copy a s", "group a a", "split h a q", "split q a a", "close h",
                    "close s", "grow a 2 p p beside 2 row 0 row 1", "look a", "look h", "kept a",
                    "split a b c d e f g h", "ask a b", "copy z z", "group a b", "x", "", None):
            with self.assertRaises(GiftError):
                self.desk.say(row)
            self.assertEqual(stand(), before)
        self.refuses(NoName, "ask z", "ask x", "ask c")
        self.says(("ask a", "gift 1"), ("look b", "gift 1"), ("ask q", "gift 8"))

    def test_two_desks_know_nothing_of_each_other(self):
        other = Desk()
        with self.assertRaises(NoName):
            other.say("ask a")
        self.assertEqual(other.say("grow a 0 list 1 9"), "ok")
        self.assertEqual(other.say("ask a"), "gift 9")
        self.says(("ask a", "gift 1"))
        other.say("close a")
        self.says(("ask a", "gift 2"))
