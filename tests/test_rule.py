"""Point 3: rule, but for the levels, which test_levels.py asks for."""

import unittest

from helper import HIGHEST, LOWEST, ask, ask_last, fact, forget, new, relations, rule

# Relations 0 to 4 of every call here have these arities.
ARITIES = (0, 1, 2, 3, 4)


def ask_rule(*words):
    return ask_last(relations(*ARITIES) + [rule(*words)])[0]


class RuleIsReadTest(unittest.TestCase):
    def expect(self, answer, *rows):
        for words in rows:
            with self.subTest(words=words):
                self.assertEqual(ask_rule(*words), answer)

    def test_rules_with_no_parts(self):
        self.expect(0, [0], [1, 0], [1, 65535], [4, 1, 2, 3, 4])

    def test_rules_with_parts(self):
        self.expect(0, [0, 1], [1, 7, -1], [1, -1, 2, -1], [2, -1, -8, 3, -8, -1], [0, 2, -3, -2, -3])

    def test_no_words_at_all(self):
        self.expect(-1, [])

    def test_no_relations_at_all(self):
        self.assertEqual(ask([new(), rule(0), rule(), rule(0, 1)]), [0, -1, -1, -1])

    def test_words_that_stop_in_the_midst_of_the_head(self):
        self.expect(-1, [1], [2, 5], [3, 5, 5], [4], [4, 5, 5, 5])

    def test_words_that_stop_in_the_midst_of_a_part(self):
        self.expect(-1, [0, 2], [0, 3, 5], [0, -3, 5], [1, 5, 5], [1, -1, 2, -1, 5, 1, 2, 3])

    def test_a_head_of_a_relation_that_is_not_there(self):
        self.expect(-1, [5], [5, 1], [-1], [-5], [-1, 1, 2, 3, 4], [LOWEST], [HIGHEST])
        self.assertEqual(ask_last(relations(0, 0) + [rule(-1), rule(-2), rule(-1, 1)], 3), [-1] * 3)

    def test_a_part_of_a_relation_that_is_not_there(self):
        self.expect(-1, [0, 6], [0, -6], [0, 6, 1, 1], [0, HIGHEST], [0, LOWEST], [0, -HIGHEST])

    def test_parts_count_their_relations_from_1_on(self):
        self.expect(0, [0, 5, 1, 2, 3, 4], [0, -5, 1, 2, 3, 4])

    def test_a_parts_number_0(self):
        self.expect(-1, [0, 0], [0, 1, 0], [0, 0, 1], [1, 5, 0], [0, 0, 1, 2, 3, 4], [0, 1, 0, 1, 2, 3, 4])
        self.assertEqual(ask_last(relations(1, 0) + [rule(0, 5, 0), rule(1, 0), rule(1, 1, 5, 0)], 3), [-1] * 3)

    def test_terms_of_the_head(self):
        self.expect(-1, [1, -9], [1, 65536], [1, LOWEST], [1, HIGHEST], [4, 1, 2, 3, -9], [4, 65536, 1, 2, 3])

    def test_terms_of_a_part(self):
        self.expect(-1, [0, 2, -9], [0, 2, 65536], [0, 5, 1, 2, 3, 65536], [0, -2, -9], [0, -2, 65536])
        self.expect(-1, [0, 2, LOWEST], [0, 2, HIGHEST])

    def test_the_ends_of_the_terms_are_taken(self):
        self.expect(0, [0, 2, -8], [0, 2, -1], [0, 2, 0], [0, 2, 65535], [1, -8, 2, -8])

    def test_8_parts_are_taken_and_9_are_not(self):
        self.expect(0, [0] + [1] * 8, [1, 5] + [2, -1] * 8, [1, 5] + [-1] * 8, [1, 5] + [1, -1] * 4)
        self.expect(-1, [0] + [1] * 9, [1, 5] + [2, -1] * 9, [1, 5] + [-1] * 9, [1, 5] + [1, -1] * 4 + [1])
        self.expect(-1, [0] + [1] * 44)

    def test_45_words(self):
        part = [5, -1, -2, -3, -4]
        self.expect(0, [4, -1, -2, -3, -4] + part * 8)
        self.expect(-1, [4, -1, -2, -3, -4] + part * 7 + part[:4])
        self.expect(-1, [4, -1, -2, -3, -9] + part * 8)

    def test_more_than_45_words(self):
        self.expect(-1, [4, -1, -2, -3, -4] + [5, -1, -2, -3, -4] * 8 + [1], [0] + [1] * 45)


class RuleIsSafeTest(unittest.TestCase):
    def expect(self, answer, *rows):
        for words in rows:
            with self.subTest(words=words):
                self.assertEqual(ask_rule(*words), answer)

    def test_a_variable_of_the_head_stands_in_no_part(self):
        self.expect(-2, [1, -1], [1, -8], [2, -1, 5, 2, -2], [4, -1, -2, -3, -4, 4, -1, -2, -3])

    def test_a_variable_of_the_head_stands_in_a_negated_part_alone(self):
        self.expect(-2, [2, -1, -1, -2, -1], [3, -1, -2, 0, 2, -1, -2, -2])

    def test_a_variable_of_a_negated_part_stands_in_no_other_part(self):
        self.expect(-2, [0, -2, -1], [0, 2, -1, -2, -2], [3, -1, -1, -1, 2, -1, -3, -1, -2])
        self.expect(-2, [0, -2, -1, -2, -1])

    def test_safe_by_a_part_ahead_of_it_or_behind_it(self):
        self.expect(0, [0, 2, -1, -2, -1], [0, -2, -1, 2, -1], [0, -3, -1, -2, 2, -1, 2, -2])

    def test_values_and_variables_of_parts_alone_are_safe(self):
        self.expect(0, [0, -2, 7], [0, 3, -1, -2], [2, 1, 2, -2, 3])

    def test_not_a_rule_comes_ahead_of_not_safe(self):
        self.expect(-1, [1, -1, 6], [1, -1, 0], [1, -1, 2], [2, -1, -9], [1, -1] + [1] * 9)


class RuleNumberTest(unittest.TestCase):
    def test_numbers_go_from_0_on(self):
        calls = relations(0, 0) + [rule(0), rule(0, 2), rule(1)]
        self.assertEqual(ask_last(calls, 3), [0, 1, 2])

    def test_the_same_rule_twice_is_two_rules(self):
        calls = relations(0, 0) + [rule(0, 2), rule(0, 2), forget(0), forget(1), forget(0)]
        self.assertEqual(ask_last(calls, 5), [0, 1, 0, 0, -1])

    def test_refused_rules_take_no_number(self):
        calls = relations(0, 1) + [rule(), rule(1, -1), rule(0, -1), rule(0), rule(9), rule(0)]
        self.assertEqual(ask_last(calls, 6), [-1, -2, -4, 0, -1, 1])

    def test_the_lowest_number_that_no_rule_has(self):
        calls = relations(0) + [rule(0)] * 5 + [forget(3), forget(1)] + [rule(0)] * 3
        self.assertEqual(ask_last(calls, 3), [1, 3, 5])

    def test_number_0_comes_again(self):
        calls = relations(0) + [rule(0), rule(0), forget(0), rule(0), forget(1), forget(0), rule(0)]
        self.assertEqual(ask_last(calls, 7), [0, 1, 0, 0, 0, 0, 0])

    def test_64_are_taken_and_the_65th_is_refused(self):
        full = relations(0) + [rule(0)] * 64
        self.assertEqual(ask_last(full, 64), [*range(64)])
        self.assertEqual(ask_last(full + [rule(0), rule(0, 1)], 2), [-3, -3])

    def test_a_forgotten_rule_gives_its_room_and_number_back(self):
        calls = relations(0) + [rule(0)] * 65 + [forget(40), rule(0), rule(0), forget(64)]
        self.assertEqual(ask_last(calls, 5), [-3, 0, 40, -3, -1])

    def test_every_other_refusal_comes_ahead_of_no_room(self):
        full = relations(0, 1) + [rule(0)] * 64
        self.assertEqual(ask_last(full + [rule(), rule(0, 0), rule(1, -1), rule(0, -1)], 4), [-1, -1, -2, -4])

    def test_not_safe_comes_ahead_of_no_levels(self):
        calls = relations(0, 1) + [rule(1, -1, -2, -1), rule(1, -1, 2, -1, -2, -1)]
        self.assertEqual(ask_last(calls, 2), [-2, -4])

    def test_not_a_rule_comes_ahead_of_no_levels(self):
        calls = relations(0, 1) + [rule(0, -1, 0), rule(0, -1, 3), rule(0, -1)]
        self.assertEqual(ask_last(calls, 3), [-1, -1, -4])

    def test_refused_rules_leave_relations_and_facts_as_they_were(self):
        told = relations(0, 1) + [fact(1, 1, 5)]
        refused = [rule(), rule(1, -1), rule(0, -1), rule(1, 65536)]
        calls = told + refused + [fact(1, 1, 5), fact(1, 0, 5), fact(1, 0, 5)]
        self.assertEqual(ask_last(calls, 7), [-1, -2, -4, -1, 0, 1, 0])


if __name__ == "__main__":
    unittest.main()
