"""Point 4: forget."""

import unittest

from helper import HIGHEST, LOWEST, ask_last, fact, forget, relations, rule


class ForgetTest(unittest.TestCase):
    def test_a_rule_that_is_there(self):
        calls = relations(0) + [rule(0), rule(0), forget(1), forget(0)]
        self.assertEqual(ask_last(calls, 2), [0, 0])

    def test_a_number_that_no_rule_has(self):
        for number in (-1, 2, 63, 64, LOWEST, HIGHEST):
            with self.subTest(number=number):
                self.assertEqual(ask_last(relations(0) + [rule(0), rule(0), forget(number)]), [-1])

    def test_no_rules_at_all(self):
        self.assertEqual(ask_last(relations(0) + [forget(0)]), [-1])

    def test_a_rule_that_is_forgotten_already(self):
        calls = relations(0) + [rule(0), rule(0), forget(0), forget(0), forget(1), forget(1)]
        self.assertEqual(ask_last(calls, 4), [0, -1, 0, -1])

    def test_other_rules_keep_their_numbers(self):
        calls = relations(0) + [rule(0)] * 3 + [forget(0), forget(2), forget(0), forget(1)]
        self.assertEqual(ask_last(calls, 4), [0, 0, -1, 0])

    def test_a_number_given_again_can_be_forgotten_again(self):
        calls = relations(0) + [rule(0), forget(0)] * 3 + [forget(0)]
        self.assertEqual(ask_last(calls, 7), [0, 0] * 3 + [-1])

    def test_a_refused_forget_leaves_all_as_it_was(self):
        made = relations(0, 0) + [rule(0, -2), fact(1, 1)]
        calls = made + [forget(1), forget(-1), rule(1, 1), rule(0), fact(1, 1), forget(0)]
        self.assertEqual(ask_last(calls, 6), [-1, -1, -4, 1, 0, 0])

    def test_forget_takes_no_fact_and_no_relation(self):
        calls = relations(0, 0) + [fact(1, 1), rule(1), forget(0), fact(1, 1), fact(1, 0)]
        self.assertEqual(ask_last(calls, 5), [1, 0, 0, 0, 1])


if __name__ == "__main__":
    unittest.main()
