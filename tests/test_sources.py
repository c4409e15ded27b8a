"""The rows that hold nothing: Listed, Counted, ToldBy."""

import unittest

from giftstreams.errors import Closed, Held, NoCount, NoNumber, NoNumbers
from giftstreams.rows import Row
from giftstreams.sources import Counted, Listed, ToldBy
from tests.helpers import (
    GREAT, Plain, Several, asked, gifts_forever, no_lists, no_wholes, scripted, stands)

END = ("end",)


def drawn_along(row, many):
    """How often it was drawn, ahead of each of so many askings and behind."""
    counts = [row.drawn()]
    for _ in range(many):
        row.ask()
        counts.append(row.drawn())
    return counts


class AllSourcesTest(unittest.TestCase):

    def sources(self):
        return [Listed([1, 2]), Counted(1, 1, 2), scripted([("gift", 1), ("gift", 2), END], [])]

    def test_each_is_a_row_and_none_under_another_one(self):
        kinds = [Listed, Counted, ToldBy]
        for kind in kinds:
            self.assertTrue(issubclass(kind, Row))
            for other in kinds:
                self.assertEqual(issubclass(kind, other), kind is other)

    def test_they_hold_nothing_and_are_free(self):
        for row in self.sources():
            self.assertEqual(stands(row), (False, False, False, []))

    def test_the_same_answers(self):
        for row in self.sources():
            self.assertEqual(asked(row, 4), [("gift", 1), ("gift", 2), END, END])

    def test_drawn_counts_the_end_once(self):
        for row in self.sources():
            self.assertEqual(drawn_along(row, 5), [0, 1, 2, 3, 3, 3])

    def test_drawn_at_any_time(self):
        for row in self.sources():
            row.ask()
            upper = Several([row], [])
            self.assertEqual(row.drawn(), 1)
            upper.ask()
            self.assertEqual(row.drawn(), 2)
            upper.close()
            self.assertEqual(row.drawn(), 2)

    def test_drawn_is_unchanged_by_what_is_refused(self):
        for row in self.sources():
            row.ask()
            row.close()
            with self.assertRaises(Closed):
                row.ask()
            self.assertEqual(row.drawn(), 1)
        for row in self.sources():
            Plain([row])
            with self.assertRaises(Held):
                row.ask()
            self.assertEqual(row.drawn(), 0)

    def test_a_copy_goes_on_from_there_in_answers_and_in_counting(self):
        for row in self.sources():
            row.ask()
            other = row.copied()
            self.assertIs(type(other), type(row))
            self.assertEqual(drawn_along(other, 3), [1, 2, 3, 3])
            self.assertEqual(row.drawn(), 1)
            self.assertEqual(asked(row, 3), [("gift", 2), END, END])

    def test_a_copy_at_the_beginning_and_behind_the_end(self):
        for row in self.sources():
            first = row.copied()
            asked(row, 3)
            last = row.copied()
            self.assertEqual(drawn_along(first, 4), [0, 1, 2, 3, 3])
            self.assertEqual(last.is_over(), True)
            self.assertEqual(drawn_along(last, 2), [3, 3, 3])
            self.assertEqual(asked(last.copied(), 1), [END])

    def test_a_copy_ahead_of_the_end_is_not_over(self):
        for row in self.sources():
            asked(row, 2)
            other = row.copied()
            self.assertIs(other.is_over(), False)
            self.assertEqual(other.ask(), END)
            self.assertIs(other.is_over(), True)
            self.assertIs(row.is_over(), False)

    def test_a_copy_of_a_copy(self):
        for row in self.sources():
            row.ask()
            second = row.copied()
            second.ask()
            third = second.copied()
            self.assertEqual((row.drawn(), second.drawn(), third.drawn()), (1, 2, 2))
            self.assertEqual(third.ask(), END)
            self.assertEqual(second.ask(), END)
            self.assertEqual(row.ask(), ("gift", 2))


class ListedTest(unittest.TestCase):

    def test_the_numbers_in_order_then_the_end(self):
        numbers = [3, -1, 3, 0, GREAT, -GREAT]
        answers = [("gift", number) for number in numbers]
        self.assertEqual(asked(Listed(numbers), 8), answers + [END, END])

    def test_the_empty_list(self):
        row = Listed([])
        self.assertIs(row.is_over(), False)
        self.assertEqual(drawn_along(row, 2), [0, 1, 1])
        self.assertEqual(asked(Listed([]), 2), [END, END])

    def test_the_list_is_neither_kept_nor_changed(self):
        numbers = [1, 2, 3]
        row = Listed(numbers)
        row.ask()
        self.assertEqual(numbers, [1, 2, 3])
        numbers[1] = 9
        numbers.append(4)
        other = row.copied()
        numbers.clear()
        for each in (row, other):
            self.assertEqual(asked(each, 3), [("gift", 2), ("gift", 3), END])

    def test_what_is_no_list(self):
        for thing in no_lists():
            with self.subTest(thing=thing), self.assertRaises(NoNumbers):
                Listed(thing)

    def test_what_is_no_number_at_any_place(self):
        for thing in no_wholes():
            for at in range(3):
                numbers = [1, 2]
                numbers.insert(at, thing)
                with self.subTest(thing=thing, at=at), self.assertRaises(NoNumbers):
                    Listed(numbers)
            with self.assertRaises(NoNumbers):
                Listed([thing])

    def test_a_list_within_itself(self):
        numbers = [1]
        numbers.append(numbers)
        with self.assertRaises(NoNumbers):
            Listed(numbers)


class CountedTest(unittest.TestCase):

    def check(self, first, step, many, numbers):
        answers = [("gift", number) for number in numbers]
        self.assertEqual(asked(Counted(first, step, many), many + 2), answers + [END, END])

    def test_first_and_steps(self):
        self.check(1, 1, 3, [1, 2, 3])
        self.check(7, 5, 4, [7, 12, 17, 22])
        self.check(0, 0, 2, [0, 0])

    def test_steps_below_nought_and_nought(self):
        self.check(2, -3, 4, [2, -1, -4, -7])
        self.check(-5, 0, 3, [-5, -5, -5])
        self.check(-5, 2, 4, [-5, -3, -1, 1])

    def test_none_one_and_two_hundred(self):
        self.check(4, 4, 0, [])
        self.check(4, 4, 1, [4])
        self.check(-9, 3, 199, list(range(-9, -9 + 3 * 199, 3)))
        self.check(-9, 3, 200, list(range(-9, -9 + 3 * 200, 3)))
        row = Counted(4, 4, 0)
        self.assertEqual(drawn_along(row, 2), [0, 1, 1])
        row = Counted(0, 1, 200)
        self.assertEqual(drawn_along(row, 202), list(range(202)) + [201])

    def test_numbers_of_thirty_figures(self):
        self.check(GREAT, GREAT, 3, [GREAT, 2 * GREAT, 3 * GREAT])
        self.check(-GREAT, -1, 2, [-GREAT, -GREAT - 1])

    def test_first_or_step_that_is_no_number(self):
        for thing in no_wholes():
            with self.subTest(thing=thing):
                with self.assertRaises(NoNumber):
                    Counted(thing, 1, 3)
                with self.assertRaises(NoNumber):
                    Counted(1, thing, 3)
                with self.assertRaises(NoNumber):
                    Counted(thing, thing, 3)

    def test_many_that_is_no_count(self):
        for thing in no_wholes() + [-1, -200, 201, 1000, GREAT, -GREAT]:
            with self.subTest(thing=thing), self.assertRaises(NoCount):
                Counted(1, 1, thing)

    def test_no_number_ahead_of_no_count(self):
        for many in (201, -1, None, True, "3"):
            with self.assertRaises(NoNumber):
                Counted(True, 1, many)
            with self.assertRaises(NoNumber):
                Counted(1, "1", many)


class ToldByTest(unittest.TestCase):

    def test_asked_for_nought_one_two_when_the_row_is_asked(self):
        log = []
        row = scripted([("gift", 8), ("gift", (1, 2)), ("gift", ()), END], log)
        self.assertEqual(log, [])
        for k, answer in enumerate([("gift", 8), ("gift", (1, 2)), ("gift", ()), END]):
            self.assertEqual(row.ask(), answer)
            self.assertEqual(log, [("s", n) for n in range(k + 1)])
        row.ask()
        self.assertEqual(len(log), 4)

    def test_a_fault_is_counted_and_told_once(self):
        log = []
        row = scripted([("gift", 8), ("fault", "torn"), ("gift", 9)], log)
        self.assertEqual(drawn_along(row, 4), [0, 1, 2, 2, 2])
        self.assertEqual(log, [("s", 0), ("s", 1)])

    def test_the_end_at_once_and_the_fault_at_once(self):
        self.assertEqual(asked(scripted([END], []), 2), [END, END])
        self.assertEqual(asked(scripted([("fault", "x")], []), 2), [("fault", "x"), END])

    def test_the_second_function_is_asked_once_as_the_row_is_closed(self):
        log = []
        row = gifts_forever(log)
        asked(row, 2)
        self.assertEqual(log, [("s", 0), ("s", 1)])
        row.close()
        self.assertEqual(log, [("s", 0), ("s", 1), ("s", "closed")])
        with self.assertRaises(Closed):
            row.close()
        row.shut()
        self.assertEqual(len(log), 3)

    def test_the_second_function_is_not_asked_at_the_end(self):
        log = []
        row = scripted([END], log)
        asked(row, 3)
        self.assertEqual(log, [("s", 0)])
        row.close()
        self.assertEqual(log, [("s", 0), ("s", "closed")])

    def test_the_second_function_is_asked_as_the_holder_is_closed(self):
        log = []
        Plain([gifts_forever(log, "a"), gifts_forever(log, "b")]).close()
        self.assertEqual(log, [("a", "closed"), ("b", "closed")])

    def test_functions_are_called_with_k_alone_and_with_nothing(self):
        calls = []

        def tell(*told, **more):
            calls.append((told, more))
            return END

        def at_end(*told, **more):
            calls.append((told, more))

        row = ToldBy(tell, at_end)
        row.ask()
        row.close()
        self.assertEqual(calls, [((0,), {}), ((), {})])

    def test_a_copy_asks_its_function_from_there_on(self):
        log = []
        row = gifts_forever(log)
        asked(row, 2)
        other = row.copied()
        del log[:]
        self.assertEqual(asked(other, 2), [("gift", 2), ("gift", 3)])
        self.assertEqual(row.ask(), ("gift", 2))
        self.assertEqual(log, [("s", 2), ("s", 3), ("s", 2)])

    def test_a_copy_and_its_original_are_closed_each_by_itself(self):
        log = []
        row = gifts_forever(log)
        other = row.copied()
        row.close()
        self.assertEqual(log, [("s", "closed")])
        self.assertEqual(other.ask(), ("gift", 0))
        other.close()
        self.assertEqual(log, [("s", "closed"), ("s", 0), ("s", "closed")])

    def test_drawn_is_not_ahead_of_the_answer(self):
        seen = []

        def tell(k):
            seen.append(row.drawn())
            return ("gift", k)

        row = ToldBy(tell, lambda: seen.append("closed"))
        asked(row, 3)
        self.assertEqual(seen, [0, 1, 2])
