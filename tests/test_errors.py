"""The refusals: one above all, none under another one."""

import unittest

import giftstreams.errors as errors
from giftstreams.errors import GiftError
from tests.helpers import REFUSALS


class ErrorsTest(unittest.TestCase):

    def test_gift_error_stands_straight_under_value_error(self):
        self.assertEqual(GiftError.__bases__, (ValueError,))

    def test_fourteen_refusals_straight_under_gift_error(self):
        self.assertEqual(len(set(REFUSALS)), 14)
        for refusal in REFUSALS:
            self.assertEqual(refusal.__bases__, (GiftError,), refusal)
            self.assertIs(getattr(errors, refusal.__name__), refusal)
            self.assertEqual(refusal.__module__, "giftstreams.errors")

    def test_made_of_a_text_or_of_nothing(self):
        for refusal in REFUSALS + [GiftError]:
            self.assertEqual(str(refusal("a word")), "a word")
            self.assertEqual(str(refusal("")), "")
            self.assertEqual(str(refusal()), "")

    def test_caught_as_itself_and_as_those_above(self):
        for refusal in REFUSALS:
            for above in (refusal, GiftError, ValueError):
                for words in (("a word",), ()):
                    with self.assertRaises(above) as caught:
                        raise refusal(*words)
                    self.assertIs(type(caught.exception), refusal)

    def test_caught_as_none_of_the_others(self):
        for refusal in REFUSALS:
            for other in REFUSALS:
                if other is refusal:
                    continue
                with self.assertRaises(refusal):
                    try:
                        raise refusal("a word")
                    except other:
                        self.fail(f"{refusal} caught as {other}")

    def test_gift_error_is_no_refusal_of_one_sort(self):
        for refusal in REFUSALS:
            self.assertNotIsInstance(GiftError(), refusal)
