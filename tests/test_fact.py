"""Point 5: fact."""

import unittest

from helper import HIGHEST, LOWEST, ask, ask_last, fact, new, relation, relations, rule


class FactTest(unittest.TestCase):
    def test_told_and_told_no_more(self):
        calls = relations(2) + [fact(0, there, 3, 4) for there in (0, 1, 1, 0, 0, 1)]
        self.assertEqual(ask_last(calls, 6), [0, 1, 0, 1, 0, 1])

    def test_there_may_be_any_number_and_only_0_takes_back(self):
        for there in (1, -1, 2, 256, LOWEST, HIGHEST):
            with self.subTest(there=there):
                calls = relations(1) + [fact(0, there, 5), fact(0, there, 5), fact(0, 0, 5)]
                self.assertEqual(ask_last(calls, 3), [1, 0, 1])

    def test_a_fact_of_no_values(self):
        calls = relations(0) + [fact(0, 1), fact(0, 1), fact(0, 0), fact(0, 0)]
        self.assertEqual(ask_last(calls, 4), [1, 0, 1, 0])

    def test_a_relation_that_is_not_there(self):
        for number in (-1, 2, 32, LOWEST, HIGHEST):
            for there in (0, 1):
                with self.subTest(number=number, there=there):
                    self.assertEqual(ask_last(relations(1, 1) + [fact(number, there, 5)]), [-1])

    def test_no_relations_at_all(self):
        self.assertEqual(ask([new(), fact(0, 1), fact(0, 0)]), [0, -1, -1])

    def test_a_term_that_is_no_value(self):
        for term in (-1, -8, 65536, LOWEST, HIGHEST):
            for at in range(4):
                terms = [1, 2, 3, 4]
                terms[at] = term
                with self.subTest(terms=terms):
                    calls = relations(4) + [fact(0, 1, *terms), fact(0, 0, *terms)]
                    self.assertEqual(ask_last(calls, 2), [-1, -1])

    def test_the_ends_of_the_values_are_taken(self):
        calls = relations(4) + [fact(0, 1, 0, 65535, 0, 65535), fact(0, 1, 65535, 0, 65535, 0)]
        self.assertEqual(ask_last(calls, 2), [1, 1])

    def test_terms_past_the_arity_do_not_matter(self):
        for arity in range(4):
            with self.subTest(arity=arity):
                one = [7] * arity + [LOWEST] * (4 - arity)
                other = [7] * arity + [HIGHEST] * (4 - arity)
                calls = relations(arity) + [fact(0, 1, *one), fact(0, 1, *other), fact(0, 0, *other), fact(0, 0, *one)]
                self.assertEqual(ask_last(calls, 4), [1, 0, 1, 0])

    def test_every_term_within_the_arity_matters(self):
        for arity in range(1, 5):
            for at in range(arity):
                with self.subTest(arity=arity, at=at):
                    one = [7] * arity
                    other = one[:at] + [8] + one[at + 1:]
                    changes = [fact(0, 1, *one), fact(0, 0, *other), fact(0, 1, *other), fact(0, 0, *one)]
                    self.assertEqual(ask_last(relations(arity) + changes, 4), [1, 0, 1, 1])

    def test_the_last_term_within_the_arity_is_looked_at(self):
        for arity in range(1, 5):
            terms = [7] * (arity - 1) + [65536]
            self.assertEqual(ask_last(relations(arity) + [fact(0, 1, *terms)]), [-1])

    def test_facts_of_two_relations_are_not_the_same(self):
        calls = relations(1, 1) + [fact(0, 1, 5), fact(1, 0, 5), fact(1, 1, 5), fact(0, 0, 5), fact(1, 0, 5)]
        self.assertEqual(ask_last(calls, 5), [1, 0, 1, 1, 1])

    def test_what_follows_by_a_rule_is_not_told(self):
        calls = relations(1) + [rule(0, 5), fact(0, 0, 5), fact(0, 1, 5), fact(0, 0, 5)]
        self.assertEqual(ask_last(calls, 4), [0, 0, 1, 1])

    def test_a_refused_fact_leaves_all_as_it_was(self):
        made = relations(1, 2) + [fact(0, 1, 5)]
        refused = [fact(2, 1, 5), fact(0, 1, 65536), fact(1, 1, 5, -1), fact(0, 0, -1), fact(-1, 0, 5)]
        calls = made + refused + [fact(0, 1, 5), relation(0), rule(2), fact(2, 0), fact(1, 0, 5, 0), fact(0, 0, 5)]
        self.assertEqual(ask_last(calls, 11), [-1] * 5 + [0, 2, 0, 0, 0, 1])

    def test_facts_told_ahead_of_another_relation_stay(self):
        calls = relations(1) + [fact(0, 1, 5), relation(1), fact(0, 1, 5), fact(1, 0, 5)]
        self.assertEqual(ask_last(calls, 4), [1, 1, 0, 0])

    def test_4096_facts_are_taken_and_one_more_is_not(self):
        # Such lists are not handed in, but the refusal is promised all the same.
        full = relations(1, 2) + [fact(at % 2, 1, at, 0) for at in range(4096)]
        self.assertEqual(ask_last(full, 4096), [1] * 4096)
        more = [fact(0, 1, 5000), fact(0, 1, 0), fact(0, 0, 5000), fact(0, 1, 65536), fact(1, 0, 1, 0),
                fact(0, 1, 5000), fact(1, 1, 1, 0)]
        self.assertEqual(ask_last(full + more, 7), [-3, 0, 0, -1, 1, 1, -3])


if __name__ == "__main__":
    unittest.main()
