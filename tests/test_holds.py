"""Point 7: holds and count."""

import unittest

from helper import ask_last, count, fact, forget, holds, new, relation, relations, rule


class HoldsTest(unittest.TestCase):
    def expect(self, made, number, arity, facts, among):
        """Just these facts of the relation hold, of all that are looked at."""
        rows = [row if isinstance(row, tuple) else (row,) for row in among]
        expected = [int(row in [other if isinstance(other, tuple) else (other,) for other in facts]) for row in rows]
        calls = made + [holds(number, *row[:arity]) for row in rows] + [count(number)]
        self.assertEqual(ask_last(calls, len(rows) + 1), expected + [len(facts)])


class ToldTest(HoldsTest):
    def test_nothing_holds_at_first(self):
        self.expect(relations(1), 0, 1, [], [0, 1, 65535])
        self.assertEqual(ask_last(relations(0) + [holds(0), count(0)], 2), [0, 0])

    def test_told_facts_hold(self):
        for arity in range(1, 5):
            terms = tuple(range(arity))
            others = [tuple(9 if at == other else other for other in range(arity)) for at in range(arity)]
            self.expect(relations(arity) + [fact(0, 1, *terms)], 0, arity, [terms], [terms, *others])

    def test_a_fact_of_no_values(self):
        self.assertEqual(ask_last(relations(0, 0) + [fact(1, 1), holds(0), count(0), holds(1), count(1)], 4), [0, 0, 1, 1])

    def test_told_again_and_told_no_more(self):
        calls = relations(1) + [fact(0, 1, 5), count(0), fact(0, 7, 5), count(0), fact(0, 0, 5), count(0), holds(0, 5)]
        self.assertEqual(ask_last(calls, 6), [1, 0, 1, 1, 0, 0])

    def test_facts_of_another_relation_do_not_count(self):
        calls = relations(1, 1, 2) + [fact(0, 1, 5), fact(0, 1, 6), fact(2, 1, 5, 6), count(0), count(1), count(2)]
        self.assertEqual(ask_last(calls, 3), [2, 0, 1])


class RulesTest(HoldsTest):
    def test_a_rule_with_no_parts(self):
        self.expect(relations(2) + [rule(0, 5, 65535)], 0, 2, [(5, 65535)], [(5, 65535), (65535, 5), (5, 5)])
        self.assertEqual(ask_last(relations(0) + [rule(0), holds(0), count(0)], 2), [1, 1])

    def test_a_rule_copies_a_relation(self):
        made = relations(1, 1) + [fact(0, 1, 5), fact(0, 1, 6), rule(1, -1, 1, -1)]
        self.expect(made, 1, 1, [5, 6], [5, 6, 7])

    def test_every_variable_may_be_used(self):
        for variable in range(-8, 0):
            made = relations(1, 1) + [fact(0, 1, 5), rule(1, variable, 1, variable)]
            self.expect(made, 1, 1, [5], [5, 6])

    def test_eight_variables_at_once(self):
        parts = [word for variable in range(-8, 0) for word in (1, variable)]
        made = relations(1, 4) + [fact(0, 1, 5), rule(1, -8, -1, -4, -5, *parts)]
        self.expect(made, 1, 4, [(5, 5, 5, 5)], [(5, 5, 5, 5), (5, 5, 5, 6)])

    def test_terms_are_put_where_they_stand(self):
        made = relations(4, 4) + [fact(0, 1, 1, 2, 3, 4), rule(1, -4, -2, -1, -3, 1, -1, -2, -3, -4)]
        self.expect(made, 1, 4, [(4, 2, 1, 3)], [(4, 2, 1, 3), (1, 2, 3, 4), (3, 2, 4, 1)])

    def test_a_variable_twice_in_the_head(self):
        made = relations(1, 3) + [fact(0, 1, 5), fact(0, 1, 6), rule(1, -1, 7, -1, 1, -1)]
        self.expect(made, 1, 3, [(5, 7, 5), (6, 7, 6)], [(5, 7, 5), (6, 7, 6), (5, 7, 6), (7, 7, 7)])

    def test_constants_in_the_head(self):
        made = relations(1, 2) + [fact(0, 1, 5), rule(1, 0, -1, 1, -1), rule(1, 9, 9, 1, 5), rule(1, 8, 8, 1, 6)]
        self.expect(made, 1, 2, [(0, 5), (9, 9)], [(0, 5), (9, 9), (8, 8), (5, 0)])

    def test_constants_in_parts(self):
        told = [fact(0, 1, 5, 6), fact(0, 1, 7, 6), fact(0, 1, 6, 5), fact(0, 1, 6, 0)]
        self.expect(relations(2, 1) + told + [rule(1, -1, 1, -1, 6)], 1, 1, [5, 7], [0, 5, 6, 7])
        self.expect(relations(2, 1) + told + [rule(1, -1, 1, 6, -1)], 1, 1, [5, 0], [0, 5, 6, 7])
        self.expect(relations(2, 1) + told + [rule(1, -1, 1, 6, -1, 1, -1, 6)], 1, 1, [5], [0, 5, 6, 7])
        self.expect(relations(2, 1) + told + [rule(1, 3, 1, 6, 5), rule(1, 4, 1, 5, 5)], 1, 1, [3], [3, 4, 5, 6])

    def test_the_same_constant_twice_and_two_constants(self):
        told = [fact(0, 1, 5, 5, 1), fact(0, 1, 5, 6, 2), fact(0, 1, 6, 5, 3), fact(0, 1, 6, 6, 4)]
        self.expect(relations(3, 1) + told + [rule(1, -1, 1, 5, 5, -1)], 1, 1, [1], range(6))
        self.expect(relations(3, 1) + told + [rule(1, -1, 1, 6, 5, -1)], 1, 1, [3], range(6))

    def test_a_variable_twice_in_one_part(self):
        told = [fact(0, 1, 5, 5), fact(0, 1, 5, 6), fact(0, 1, 6, 5), fact(0, 1, 7, 7)]
        self.expect(relations(2, 1) + told + [rule(1, -1, 1, -1, -1)], 1, 1, [5, 7], [5, 6, 7])

    def test_two_variables_twice_in_one_part(self):
        rows = [(1, 2, 1, 2), (1, 2, 2, 1), (3, 3, 3, 3), (1, 2, 1, 3), (4, 5, 4, 5), (2, 1, 2, 2)]
        made = relations(4, 2) + [fact(0, 1, *row) for row in rows] + [rule(1, -1, -2, 1, -1, -2, -1, -2)]
        self.expect(made, 1, 2, [(1, 2), (3, 3), (4, 5)], [(1, 2), (2, 1), (3, 3), (1, 3), (4, 5), (2, 2)])

    def test_a_variable_in_two_parts(self):
        told = [fact(0, 1, 1, 2), fact(0, 1, 2, 3), fact(0, 1, 5, 3), fact(0, 1, 3, 4)]
        made = relations(2, 2) + told + [rule(1, -1, -3, 1, -1, -2, 1, -2, -3)]
        self.expect(made, 1, 2, [(1, 3), (2, 4), (5, 4)], [(1, 2), (1, 3), (2, 4), (5, 4), (1, 4), (3, 4)])

    def test_a_variable_twice_in_one_part_and_in_another(self):
        told = [fact(0, 1, 5, 5), fact(0, 1, 6, 6), fact(0, 1, 5, 7), fact(1, 1, 5), fact(1, 1, 7)]
        made = relations(2, 1, 1) + told
        self.expect(made + [rule(2, -1, 1, -1, -1, 2, -1)], 2, 1, [5], [5, 6, 7])
        self.expect(made + [rule(2, -1, 2, -1, 1, -1, -1)], 2, 1, [5], [5, 6, 7])
        self.expect(made + [rule(2, -2, 2, -1, 1, -1, -2, 2, -2)], 2, 1, [5, 7], [5, 6, 7])

    def test_parts_that_share_no_variable(self):
        told = [fact(0, 1, 5), fact(0, 1, 6), fact(1, 1, 8), fact(1, 1, 9)]
        made = relations(1, 1, 2, 1) + told
        pairs = [(5, 8), (5, 9), (6, 8), (6, 9)]
        self.expect(made + [rule(2, -1, -2, 1, -1, 2, -2)], 2, 2, pairs, pairs + [(8, 5), (5, 6)])
        self.expect(made + [rule(2, -1, -1, 1, -1, 4, -2)], 2, 2, [], pairs + [(5, 5)])
        self.expect(made + [rule(2, -1, -1, 1, -1, 2, -2)], 2, 2, [(5, 5), (6, 6)], pairs + [(5, 5), (6, 6)])

    def test_the_same_part_twice(self):
        made = relations(1, 1) + [fact(0, 1, 5), rule(1, -1, *[1, -1] * 8)]
        self.expect(made, 1, 1, [5], [5, 6])

    def test_relations_of_arity_0(self):
        made = relations(0, 0, 0, 1) + [rule(1, 1), rule(2, 2, 1), rule(3, 5, 3)]
        asked = [holds(0), holds(1), holds(2), holds(3, 5)]
        self.assertEqual(ask_last(made + asked, 4), [0] * 4)
        self.assertEqual(ask_last(made + [fact(0, 1)] + asked, 4), [1] * 4)

    def test_a_rule_whose_head_is_told_already(self):
        made = relations(1, 1) + [fact(0, 1, 5), fact(1, 1, 5), rule(1, -1, 1, -1)]
        self.expect(made, 1, 1, [5], [5, 6])
        self.expect(made + [fact(1, 0, 5)], 1, 1, [5], [5, 6])
        self.expect(made + [fact(0, 0, 5)], 1, 1, [5], [5, 6])
        self.expect(made + [fact(0, 0, 5), fact(1, 0, 5)], 1, 1, [], [5, 6])

    def test_count_counts_each_fact_once(self):
        made = relations(1, 1, 2) + [fact(0, 1, 5), fact(0, 1, 6), fact(1, 1, 5)]
        rules = [rule(1, -1, 1, -1), rule(1, -1, 1, -1), rule(1, 5), rule(1, 5, 1, -1), rule(1, -2, 1, -1, 1, -2)]
        self.expect(made + rules, 1, 1, [5, 6], [5, 6, 7])
        self.assertEqual(ask_last(made + rules + [count(0), count(1), count(2)], 3), [2, 2, 0])

    def test_a_rule_that_follows_from_itself_alone(self):
        made = relations(0, 0) + [rule(0, 2), rule(1, 1), rule(0, 1)]
        self.assertEqual(ask_last(made + [holds(0), holds(1), count(0)], 3), [0, 0, 0])
        self.assertEqual(ask_last(made + [fact(1, 1), holds(0), holds(1), count(0)], 3), [1, 1, 1])
        self.assertEqual(ask_last(made + [fact(1, 1), holds(0), fact(1, 0), holds(0), holds(1)], 2), [0, 0])


class CirclesTest(HoldsTest):
    def test_paths_by_each_rule(self):
        edges = [fact(0, 1, at, at + 1) for at in range(5)]
        pairs = [(one, other) for one in range(7) for other in range(7)]
        paths = [(one, other) for one, other in pairs if one < other <= 5]
        first = rule(1, -1, -2, 1, -1, -2)
        for further in (rule(1, -1, -3, 1, -1, -2, 2, -2, -3), rule(1, -1, -3, 2, -1, -2, 1, -2, -3),
                        rule(1, -1, -3, 2, -1, -2, 2, -2, -3), rule(1, -1, -3, 2, -2, -3, 2, -1, -2)):
            with self.subTest(further=further):
                self.expect(relations(2, 2) + edges + [first, further], 1, 2, paths, pairs)
                self.expect(relations(2, 2) + [further, first] + edges[::-1], 1, 2, paths, pairs)

    def test_paths_within_a_circle_of_edges(self):
        edges = [fact(0, 1, at, (at + 1) % 4) for at in range(4)] + [fact(0, 1, 7, 7)]
        rules = [rule(1, -1, -2, 1, -1, -2), rule(1, -1, -3, 2, -1, -2, 2, -2, -3)]
        pairs = [(one, other) for one in range(4) for other in range(4)]
        self.expect(relations(2, 2) + edges + rules, 1, 2, pairs + [(7, 7)], pairs + [(7, 7), (3, 7), (7, 0)])

    def test_a_circle_through_three_relations(self):
        rules = [rule(1, -2, 1, -1, -2, 4, -1), rule(2, -1, 2, -1), rule(3, -1, 3, -1)]
        made = relations(2, 1, 1, 1) + rules + [fact(0, 1, at, at + 1) for at in range(4)]
        for number in (1, 2):
            self.expect(made + [fact(3, 1, 1)], number, 1, [2, 3, 4], range(7))
        self.expect(made + [fact(3, 1, 1)], 3, 1, [1, 2, 3, 4], range(7))
        self.expect(made + [fact(2, 1, 2)], 2, 1, [2, 3, 4], range(7))
        self.expect(made, 3, 1, [], range(7))

    def test_two_parts_of_the_circle_at_once(self):
        sums = [fact(0, 1, one, other, one + other) for one in range(9) for other in range(9) if one + other < 9]
        made = relations(3, 1) + sums + [rule(1, -3, 2, -1, 2, -2, 1, -1, -2, -3), fact(1, 1, 3)]
        self.expect(made, 1, 1, [3, 6], range(10))
        self.expect(made + [fact(1, 1, 2)], 1, 1, [2, 3, 4, 5, 6, 7, 8], range(10))


    def test_parts_of_the_circle_that_are_met_one_behind_the_other(self):
        # 1 is told, 2 follows in three steps: one part is met long before the other.
        steps = [rule(0, 8, 1, 9), rule(0, 7, 1, 8), rule(0, 2, 1, 7), fact(0, 1, 9), fact(0, 1, 1)]
        for body in ([1, 1, 1, 2], [1, 2, 1, 1]):
            self.expect(relations(1) + steps + [rule(0, 3, *body)], 0, 1, [1, 2, 3, 7, 8, 9], range(10))
        for body in ([1, -1, -2, 1, -2, 6], [1, -2, 6, 1, -1, -2]):
            made = relations(2) + [fact(0, 1, 4, 5), rule(0, 5, 6, 1, 5, 7), rule(0, 5, 7, 1, 5, 8), fact(0, 1, 5, 8)]
            pairs = [(4, 5), (5, 6), (5, 7), (5, 8)]
            self.expect(made + [rule(0, -1, 0, *body)], 0, 2, pairs + [(4, 0)], pairs + [(4, 0), (5, 0), (4, 6)])


class NegatedTest(HoldsTest):
    def test_what_does_not_hold(self):
        told = [fact(0, 1, at) for at in range(5)] + [fact(1, 1, 2), fact(1, 1, 4), fact(1, 1, 6)]
        for words in ([2, -1, 1, -1, -2, -1], [2, -1, -2, -1, 1, -1]):
            self.expect(relations(1, 1, 1) + told + [rule(*words)], 2, 1, [0, 1, 3], range(8))

    def test_of_a_relation_with_no_facts_and_no_rules(self):
        made = relations(1, 1, 1) + [fact(0, 1, 5), rule(2, -1, 1, -1, -2, -1)]
        self.expect(made, 2, 1, [5], [5, 6])
        self.assertEqual(ask_last(relations(0, 0) + [rule(0, -2), holds(0)]), [1])

    def test_negated_parts_alone(self):
        made = relations(1, 0) + [rule(1, -1, 5, -1, 6)]
        self.assertEqual(ask_last(made + [holds(1)]), [1])
        self.assertEqual(ask_last(made + [fact(0, 1, 7), holds(1)]), [1])
        self.assertEqual(ask_last(made + [fact(0, 1, 5), holds(1)]), [0])
        self.assertEqual(ask_last(made + [fact(0, 1, 6), holds(1)]), [0])

    def test_a_negated_part_is_asked_for_each_way(self):
        told = [fact(0, 1, 1, 2), fact(0, 1, 1, 3), fact(0, 1, 4, 2), fact(1, 1, 2)]
        made = relations(2, 1, 1) + told + [rule(2, -1, 1, -1, -2, -2, -2)]
        self.expect(made, 2, 1, [1], range(6))
        self.expect(made + [fact(1, 1, 3)], 2, 1, [], range(6))

    def test_a_variable_twice_in_a_negated_part(self):
        told = [fact(0, 1, at) for at in range(4)] + [fact(1, 1, 1, 1), fact(1, 1, 2, 3), fact(1, 1, 3, 2)]
        self.expect(relations(1, 2, 1) + told + [rule(2, -1, 1, -1, -2, -1, -1)], 2, 1, [0, 2, 3], range(5))

    def test_constants_in_a_negated_part(self):
        told = [fact(0, 1, at) for at in range(4)] + [fact(1, 1, 1, 9), fact(1, 1, 9, 2), fact(1, 1, 3, 8)]
        made = relations(1, 2, 1) + told
        self.expect(made + [rule(2, -1, 1, -1, -2, -1, 9)], 2, 1, [0, 2, 3], range(5))
        self.expect(made + [rule(2, -1, 1, -1, -2, 9, -1)], 2, 1, [0, 1, 3], range(5))
        self.expect(made + [rule(2, -1, 1, -1, -2, 1, 9)], 2, 1, [], range(5))
        self.expect(made + [rule(2, -1, 1, -1, -2, 1, 8)], 2, 1, [0, 1, 2, 3], range(5))

    def test_between_parts_that_share_no_variable(self):
        told = [fact(0, 1, at) for at in range(3)] + [fact(1, 1, 0, 1), fact(1, 1, 2, 2), fact(1, 1, 1, 0)]
        pairs = [(one, other) for one in range(3) for other in range(3)]
        left = [pair for pair in pairs if pair not in [(0, 1), (2, 2), (1, 0)]]
        made = relations(1, 2, 2, 1) + told
        self.expect(made + [rule(2, -1, -2, 1, -1, 1, -2, -2, -1, -2)], 2, 2, left, pairs)
        self.expect(made + [rule(3, -1, 1, -1, 1, -2, -2, -1, -2, 1, -3, -2, -2, -3)], 3, 1, [0, 1, 2], range(4))
        self.expect(made + [fact(1, 1, 2, 0), fact(1, 1, 2, 1), rule(3, -1, 1, -1, 1, -2, -2, -1, -2)], 3, 1, [0, 1],
                    range(4))

    def test_two_negated_parts_that_ask_for_one_variable(self):
        told = [fact(0, 1, at) for at in range(3)] + [fact(1, 1, 0), fact(2, 1, 1, 0), fact(2, 1, 1, 1), fact(2, 1, 1, 2)]
        made = relations(1, 1, 2, 0, 1) + told
        for negated in ([-2, -1, -3, -1, -2], [-3, -1, -2, -2, -1]):
            for parts in ([1, -1, 1, -2], [1, -2, 1, -1]):
                self.assertEqual(ask_last(made + [rule(3, *parts, *negated), holds(3)]), [1])
                self.assertEqual(ask_last(made + [fact(1, 1, 2), rule(3, *parts, *negated), holds(3)]), [0])
                self.expect(made + [fact(2, 1, 2, 0), rule(4, -2, *parts, *negated)], 4, 1, [1, 2], range(4))

    def test_rules_that_differ_in_their_negated_parts_alone(self):
        made = relations(1, 1, 1, 1) + [fact(0, 1, 1), fact(0, 1, 2), fact(0, 1, 3), fact(1, 1, 1), fact(2, 1, 2)]
        rules = [rule(3, -1, 1, -1, -2, -1), rule(3, -1, 1, -1, -3, -1)]
        self.expect(made + rules[:1], 3, 1, [2, 3], range(5))
        self.expect(made + rules[1:], 3, 1, [1, 3], range(5))
        self.expect(made + rules, 3, 1, [1, 2, 3], range(5))
        self.expect(made + rules[::-1], 3, 1, [1, 2, 3], range(5))

    def test_the_negated_relation_is_settled_whole_first(self):
        # reached from 0, and what is not reached: a fact of the last round must be known before the first of these.
        edges = [fact(1, 1, at, at + 1) for at in range(6)] + [fact(1, 1, 8, 9)]
        made = relations(1, 2, 1, 1) + [fact(0, 1, at) for at in range(10)] + edges
        reached = [rule(2, 0), rule(2, -2, 2, -1, -2, 3, -1)]
        apart = rule(3, -1, 1, -1, -3, -1)
        for rules in (reached + [apart], [apart] + reached, [apart] + reached[::-1]):
            self.expect(made + rules, 3, 1, [7, 8, 9], range(11))

    def test_several_levels(self):
        # Each relation is what the one below is not; the base is all of them.
        rules = [rule(at, -1, 1, -1, -at, -1) for at in range(2, 10)]
        made = relations(*[1] * 10) + [fact(0, 1, 1), fact(0, 1, 2), fact(1, 1, 1)]
        for order in (rules, rules[::-1], rules[::2] + rules[1::2]):
            for number in range(1, 10):
                self.expect(made + order, number, 1, [1] if number % 2 == 1 else [2], [1, 2, 3])

    def test_relations_in_another_order_than_their_levels(self):
        # Relation 9 is told, 0 stands highest.
        rules = [rule(at, -1, 10, -1, -at - 2, -1) for at in range(8)]
        made = relations(*[1] * 10) + [fact(9, 1, 1), fact(9, 1, 2), fact(8, 1, 1)]
        for order in (rules, rules[::-1], rules[1::2] + rules[::2]):
            for number in range(9):
                self.expect(made + order, number, 1, [1] if number % 2 == 0 else [2], [1, 2, 3])

    def test_32_levels(self):
        rules = [rule(at, -at) for at in range(1, 32)]
        for order in (rules, rules[::-1]):
            for told in (0, 1):
                calls = relations(*[0] * 32) + order + [fact(0, told)] + [holds(at) for at in range(32)]
                self.assertEqual(ask_last(calls, 32), [told, 1 - told] * 16)

    def test_a_circle_above_a_negated_part(self):
        # Walks only over nodes that are not barred, where barred follows by a circle of its own.
        edges = [(0, 1), (1, 2), (2, 3), (1, 4), (4, 5)]
        made = relations(2, 1, 1) + [fact(0, 1, *edge) for edge in edges] + [fact(1, 1, 4), fact(2, 1, 0)]
        rules = [rule(2, -2, 3, -1, 1, -1, -2, -2, -2), rule(1, -2, 2, -1, 1, -1, -2)]
        self.expect(made + rules, 2, 1, [0, 1, 2, 3], range(7))
        self.expect(made + rules, 1, 1, [4, 5], range(7))

    def test_told_facts_of_a_higher_level_hold_all_the_same(self):
        made = relations(0, 0) + [rule(1, -1), fact(0, 1), fact(1, 1)]
        self.assertEqual(ask_last(made + [holds(1), fact(1, 0), holds(1), fact(0, 0), holds(1)], 5), [1, 1, 0, 1, 1])


class ChangesTest(HoldsTest):
    def test_behind_each_fact(self):
        made = relations(1, 1, 1) + [rule(1, -1, 1, -1), rule(2, -1, 2, -1)]
        calls = made + [count(2), fact(0, 1, 5), holds(2, 5), fact(0, 1, 6), count(2), fact(0, 0, 5), holds(2, 5),
                        holds(2, 6), count(1), fact(0, 0, 6), count(1), count(2)]
        self.assertEqual(ask_last(calls, 12), [0, 1, 1, 1, 2, 1, 0, 1, 1, 1, 0, 0])

    def test_behind_each_fact_by_a_negated_part(self):
        made = relations(0, 0, 0) + [rule(1, -1), rule(2, -2)]
        look = [holds(0), holds(1), holds(2)]
        calls = made + look + [fact(0, 1)] + look + [fact(0, 0)] + look
        self.assertEqual(ask_last(calls, 11), [0, 1, 0] + [1] + [1, 0, 1] + [1] + [0, 1, 0])

    def test_a_told_fact_that_follows_as_well(self):
        calls = relations(0, 0) + [fact(0, 1), rule(1, 1), fact(1, 1), holds(1), fact(1, 0), holds(1), fact(0, 0), holds(1)]
        self.assertEqual(ask_last(calls, 6), [1, 1, 1, 1, 1, 0])

    def test_facts_that_hold_each_other_up_go_together(self):
        made = relations(1, 1, 1) + [rule(1, -1, 1, -1), rule(1, -1, 3, -1), rule(2, -1, 2, -1)]
        calls = made + [fact(0, 1, 5), count(1), count(2), fact(0, 0, 5), count(1), count(2)]
        self.assertEqual(ask_last(calls, 6), [1, 1, 1, 1, 0, 0])

    def test_behind_each_rule(self):
        made = relations(1, 1, 1) + [fact(0, 1, 5), count(2)]
        calls = made + [rule(2, -1, 2, -1), count(2), rule(1, -1, 1, -1), count(2), rule(2, 9), count(2), forget(0), count(2),
                        forget(1), count(1), count(2), forget(2), count(2)]
        self.assertEqual(ask_last(calls, 14), [0, 0, 0, 1, 1, 2, 2, 0, 1, 0, 0, 1, 0, 0])

    def test_behind_each_rule_by_a_negated_part(self):
        calls = relations(0, 0) + [rule(1, -1), holds(1), rule(0), holds(1), forget(1), holds(1), forget(0), holds(1)]
        self.assertEqual(ask_last(calls, 8), [0, 1, 1, 0, 0, 1, 0, 0])

    def test_a_rule_that_stands_twice(self):
        calls = relations(0) + [rule(0), rule(0), holds(0), forget(0), holds(0), forget(1), holds(0)]
        self.assertEqual(ask_last(calls, 5), [1, 0, 1, 0, 0])

    def test_a_number_that_is_given_to_another_rule(self):
        calls = relations(1) + [rule(0, 5), holds(0, 5), forget(0), rule(0, 6), holds(0, 5), holds(0, 6), count(0)]
        self.assertEqual(ask_last(calls, 6), [1, 0, 0, 0, 1, 1])

    def test_refused_changes_change_nothing(self):
        made = relations(1, 1) + [fact(0, 1, 5), rule(1, -1, 1, -1)]
        refused = [rule(1, -1), rule(1), rule(0, -1, 1, -1, -2, -1), forget(1), fact(1, 1, -1), fact(2, 1, 7), relation(5)]
        self.assertEqual(ask_last(made + refused, 7), [-2, -1, -4, -1, -1, -1, -1])
        self.expect(made + refused, 1, 1, [5], [5, 6, 7])

    def test_behind_another_relation(self):
        calls = relations(1) + [fact(0, 1, 5), count(0), relation(1), count(0), count(1), rule(1, -1, 1, -1), count(1),
                                relation(0), rule(2, 2, -1), holds(2), count(1)]
        self.assertEqual(ask_last(calls, 10), [1, 1, 1, 0, 0, 1, 2, 1, 1, 1])

    def test_behind_a_fact_of_another_relation(self):
        calls = relations(1) + [fact(0, 1, 5), count(0), relation(1), fact(1, 1, 6), count(1), holds(1, 6), count(0)]
        self.assertEqual(ask_last(calls, 6), [1, 1, 1, 1, 1, 1])

    def test_behind_new(self):
        made = relations(1, 1) + [fact(0, 1, 5), rule(1, -1, 1, -1), count(1)]
        calls = made + relations(1, 1) + [count(0), count(1), holds(1, 5), fact(0, 1, 5), count(1), new(), count(0)]
        self.assertEqual(ask_last(calls, 11), [1, 0, 0, 1, 0, 0, 0, 1, 0, 0, -1])

    def test_only_some_relations_draw_from_what_changed(self):
        made = relations(1, 1, 1, 1) + [rule(1, -1, 1, -1), rule(3, -1, 3, -1), rule(3, -1, 2, -1)]
        calls = made + [fact(2, 1, 7), count(3), fact(0, 1, 5), count(3), count(1), fact(2, 0, 7), count(3), count(1),
                        fact(0, 0, 5), count(3), count(1)]
        self.assertEqual(ask_last(calls, 11), [1, 1, 1, 2, 1, 1, 1, 1, 1, 0, 0])


if __name__ == "__main__":
    unittest.main()
