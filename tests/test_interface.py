"""The interface: how calls are handed in, and how their answers are given back."""

import contextlib
import io
import sys
import unittest
from unittest import mock

from factsandrules.desk import answers

# One list with every call, ones that are taken and ones that are refused, and what is given back.
CALLS = [
    1,
    2, 1,
    2, 5,
    2, 0,
    3, 0,
    3, 1, 1,
    3, 4, 0, -1, 1, -1,
    3, 3, 1, -1, -7,
    3, 2, 1, -2,
    4, 0,
    4, 0,
    5, 0, 1, 4, 9, -1, -2, -3,
    5, 0, -5, 4, 9, 0, 0, 0,
    5, 0, 1, 4, -9, 0, 0, 0,
    6, 0, 4, 9, 5, 5, 5,
    6, 0, 4, 5, 9, 9, 9,
    6, 1, 4, 0, 0, 0, 0,
    6, 2, 4, 0, 0, 0, 0,
    3, 1, 1,
    7, 0,
    7, -1,
    8, 0, 1, 4, 0, 0, 0, 0,
    8, 0, 0, 4, 8, 1, 1, 1,
    8, 0, 0, 4, 9, 1, 1, 1,
    8, 1, -1, 4, 3, 3, 3, 3,
    8, 2, 1, 4, 0, 0, 0, 0,
    9, 0, 4, 9, 0, 0, 0,
    9, 1, 4, 0, 0, 0, 0,
    9, 0, 4, 8, 0, 0, 0,
    9, 0, 4, -8, 0, 0, 0,
    5, 0, 0, 4, 9, 0, 0, 0,
    7, 0,
    1,
    4, 0,
]
GIVEN = [
    1, 0,
    1, 0,
    1, -1,
    1, 1,
    1, -1,
    1, 0,
    1, 1,
    1, -2,
    1, -4,
    1, 0,
    1, -1,
    1, 1,
    1, 0,
    1, -1,
    1, 1,
    1, 0,
    1, 0,
    1, -1,
    1, 0,
    1, 1,
    1, -1,
    5, 1, 9, 0, 0, 0,
    5, 1, 9, 0, 0, 0,
    1, 0,
    5, 1, 0, 0, 0, 0,
    1, -1,
    1, 0,
    1, 1,
    1, -6,
    1, -1,
    1, 1,
    1, 0,
    1, 0,
    1, -1,
]


class InterfaceTest(unittest.TestCase):
    def test_each_call_is_answered_in_order_with_a_count_ahead(self):
        self.assertEqual(answers(CALLS), GIVEN)

    def test_a_call_alone(self):
        self.assertEqual(answers([1]), [1, 0])

    def test_words_and_terms_that_look_like_calls(self):
        calls = [1, 2, 4, 3, 5, 0, 1, 2, 3, 4, 5, 0, 5, 4, 5, 5, 5, 5, 4, 0, 4, 5]
        self.assertEqual(answers(calls), [1, 0, 1, 0, 1, 0, 1, 1, 1, 0, 1, -1])

    def test_terms_of_questions_that_look_like_calls(self):
        calls = [1, 2, 4, 6, 0, 4, 8, 0, 0, 4, 8, 0, 1, 4, 6, 7, 8, 9, 9, 0, 4, 9, 9, 9, 9, 7, 0, 6, 7, 4, 4, 4, 4, 4]
        self.assertEqual(answers(calls), [1, 0, 1, 0, 1, 0, 1, 0, 1, -6, 1, 0, 1, -1])

    def test_whole_numbers_in_a_list_are_given_back(self):
        given = answers(CALLS)
        self.assertIs(type(given), list)
        self.assertEqual({type(number) for number in given}, {int})

    def test_what_is_handed_in_is_not_changed(self):
        calls = list(CALLS)
        given = answers(calls)
        self.assertEqual(calls, CALLS)
        self.assertIsNot(given, calls)

    def test_nothing_is_kept_from_one_time_to_the_next(self):
        first = answers(CALLS)
        first.append(5)
        answers([1, 2, 0, 3, 1, 0, 5, 0, 1, 4, 0, 0, 0, 0, 7, 0, 2, 1, 3, 4, 1, 5, 1, 7, 1])
        self.assertEqual(answers(CALLS), GIVEN)
        self.assertEqual(answers(CALLS), GIVEN)

    def test_a_list_as_long_as_may_be(self):
        calls = [1] + [2, 4] * 32 + [3, 45] + [0, -1, -2, -3, -4] + [1, -1, -2, -3, -4] * 8
        calls = calls + [5, 31, 1, 4, 1, 2, 3, 4, 5, 31, 0, 4, 1, 2, 3, 4] * 483
        self.assertEqual(answers(calls), [1, 0] + [n for at in range(32) for n in (1, at)] + [1, 0] + [1, 1] * 966)

    def test_many_refusals_of_long_rules(self):
        calls = [1] + [2, 0] * 32
        for at in range(64):
            head = at % 31 + 1
            calls += [3, 9, head] + [-head] * 8
        calls += [3, 9, 0] + [32] * 8
        calls += ([3, 9, 0] + [-32] * 8) * 500
        given = answers(calls)
        self.assertEqual(given[-1002:], [1, -4] * 501)
        self.assertEqual(given[66:194:2], [1] * 64)
        self.assertEqual(given[67:194:2], list(range(64)))

    def test_nothing_is_printed_read_or_imported(self):
        loaded = set(sys.modules)
        out = io.StringIO()
        with mock.patch("builtins.open", side_effect=AssertionError), \
                mock.patch("builtins.input", side_effect=AssertionError), \
                contextlib.redirect_stdout(out), contextlib.redirect_stderr(out):
            answers(CALLS)
        self.assertEqual(out.getvalue(), "")
        self.assertEqual(set(sys.modules), loaded)


if __name__ == "__main__":
    unittest.main()
