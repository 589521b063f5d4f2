"""Point 9: height."""

import unittest

from helper import ask_last, fact, forget, height, relations, rule


class HeightTest(unittest.TestCase):
    def expect(self, made, *rows):
        """Each row is a relation, its terms, and the height that's asked for."""
        calls = [height(*row[:-1]) for row in rows]
        self.assertEqual(ask_last(made + calls, len(rows)), [row[-1] for row in rows])

    def test_a_told_fact(self):
        self.expect(relations(1, 0) + [fact(0, 1, 5), fact(1, 1)], (0, 5, 0), (1, 0))

    def test_a_told_fact_that_a_rule_makes_hold_too(self):
        made = relations(1, 1) + [fact(0, 1, 5), fact(1, 1, 5), rule(1, -1, 1, -1), rule(1, 5)]
        self.expect(made, (1, 5, 0))
        self.expect(made + [fact(1, 0, 5)], (1, 5, 1))
        self.expect(made + [fact(1, 0, 5), fact(1, 1, 5)], (1, 5, 0))

    def test_a_fact_that_does_not_hold(self):
        made = relations(1, 1, 0) + [fact(0, 1, 5), rule(1, -1, 1, -1), rule(2, 1, 6)]
        self.expect(made, (0, 6, -6), (1, 6, -6), (2, -6))
        self.expect(made + [height(1, 5), fact(0, 0, 5)], (0, 5, -6), (1, 5, -6))

    def test_a_rule_with_no_parts(self):
        self.expect(relations(1, 0) + [rule(0, 5), rule(1)], (0, 5, 1), (0, 6, -6), (1, 1))

    def test_a_rule_of_negated_parts_alone(self):
        self.expect(relations(0, 0, 1) + [rule(0, -2, -3, 7)], (0, 1))

    def test_negated_parts_do_not_count(self):
        # Relation 3 stands at 3 and holds of 1; that it doesn't hold of 2 adds nothing to the height.
        steps = [fact(0, 1, 1), rule(1, -1, 1, -1), rule(2, -1, 2, -1), rule(3, -1, 3, -1)]
        made = relations(1, 1, 1, 1, 1, 1) + steps + [fact(4, 1, 2), rule(5, -1, 5, -1, -4, -1)]
        self.expect(made, (3, 1, 3), (5, 2, 1), (5, 1, -6))

    def test_one_more_than_the_highest_of_the_parts(self):
        chain = [fact(0, 1), rule(1, 1), rule(2, 2), rule(3, 3)]
        made = relations(*[0] * 6) + chain
        self.expect(made, (0, 0), (1, 1), (2, 2), (3, 3), (4, -6))
        for body in ([1, 4], [4, 1], [2, 4, 3], [4, 4], [1, 2, 3, 4, 1, 2, 3, 4], [-6, 4], [4, 1, -6]):
            with self.subTest(body=body):
                self.expect(made + [rule(4, *body)], (4, 4))
        self.expect(made + [rule(4, 1, 2)], (4, 2))

    def test_the_highest_part_where_the_parts_share_variables(self):
        made = relations(1, 1, 1, 2, 1) + [fact(0, 1, 5), rule(1, -1, 1, -1), rule(2, -1, 2, -1), fact(3, 1, 5, 6)]
        for words in ((4, -2, 3, -1, 4, -1, -2), (4, -2, 4, -1, -2, 3, -1), (4, -2, 4, -1, -2, 3, -1, 1, -1)):
            self.expect(made + [rule(*words)], (4, 6, 3))

    def test_the_highest_part_where_the_parts_share_none(self):
        made = relations(1, 1, 1, 1, 2) + [fact(0, 1, 5), rule(1, -1, 1, -1), rule(2, -1, 2, -1), fact(3, 1, 8)]
        for words in ((4, -1, -2, 4, -1, 3, -2), (4, -1, -2, 3, -2, 4, -1), (4, 8, 5, 3, -2, 4, -1), (4, 8, 5, 4, -2, 3, 5)):
            self.expect(made + [rule(*words)], (4, 8, 5, 3))

    def test_the_lowest_of_several_rules(self):
        chain = [fact(0, 1), rule(1, 1), rule(2, 2), rule(3, 3)]
        made = relations(*[0] * 5) + chain
        for rules in ([rule(4, 4), rule(4, 2)], [rule(4, 2), rule(4, 4)], [rule(4, 4, 1), rule(4, 3), rule(4, 2, 1)]):
            self.expect(made + rules, (4, 2))

    def test_the_lowest_of_several_values(self):
        # 5 is of height 3 in relation 3, 6 is told there; whatever the values' order, 6 is the lower way.
        for one, other in ((5, 6), (6, 5)):
            made = relations(1, 1, 1, 1, 0, 1) + [fact(0, 1, one), rule(1, -1, 1, -1), rule(2, -1, 2, -1), rule(3, -1, 3, -1)]
            made += [fact(3, 1, other)]
            self.expect(made + [rule(4, 4, -1)], (3, one, 3), (3, other, 0), (4, 1))
            self.expect(made + [rule(5, 9, 4, -1)], (5, 9, 1))

    def test_the_lowest_way_where_a_variable_is_let_go_of(self):
        # To 9 by 1 in four steps, by 2 in two: the middle value is not in the head.
        made = relations(1, 1, 1, 2, 1) + [fact(0, 1, 1), rule(1, -1, 1, -1), rule(2, -1, 2, -1), rule(2, -1, 5, -1)]
        made += [fact(4, 1, 2), fact(3, 1, 1, 9), fact(3, 1, 2, 9)]
        further = [(3, -2, -2, 3, -1, 4, -1, -2), (3, -2, -2, 4, -1, -2, 3, -1)]
        for words in further:
            self.expect(made + [rule(*words)], (2, 1, 2), (2, 2, 1), (3, 9, 9, 2))
            self.expect(made + [rule(*words), fact(4, 0, 2)], (3, 9, 9, 3))

    def test_the_lowest_way_where_a_negated_part_bars_another(self):
        # Both 1 and 2 lead to the head; the lower way, by 2, is barred.
        made = relations(1, 1, 1, 0) + [fact(0, 1, 1), rule(1, -1, 1, -1), fact(1, 1, 2), rule(3, 2, -1, -3, -1)]
        self.expect(made, (3, 1))
        self.expect(made + [fact(2, 1, 2)], (3, 2))
        self.expect(made + [fact(2, 1, 2), fact(2, 1, 1)], (3, -6))

    def test_the_lowest_of_the_ways_that_a_negated_part_leaves(self):
        # Relation 1 holds of the one at 3, of the other at 0; the value is asked for in the negated part alone.
        for one, other in ((1, 2), (2, 1)):
            made = relations(1, 1, 1, 1, 1, 0, 1) + [fact(0, 1, one), rule(2, -1, 1, -1), rule(3, -1, 3, -1)]
            made += [rule(1, -1, 4, -1), fact(1, 1, other), fact(4, 1, one), fact(4, 1, other)]
            for body in ([5, -1, 2, -1, -7, -1], [2, -1, 5, -1, -7, -1], [-7, -1, 5, -1, 2, -1]):
                self.expect(made + [rule(5, *body)], (1, one, 3), (1, other, 0), (5, 1))
                self.expect(made + [rule(5, *body), fact(6, 1, other)], (5, 4))

    def test_the_lowest_of_the_ways_that_a_negated_part_of_two_variables_leaves(self):
        # The pair with the one stands at 1, that with the other at 0; both variables stand in no head.
        for one, other in ((1, 2), (2, 1)):
            made = relations(1, 2, 2, 2, 0) + [fact(0, 1, one), fact(0, 1, other), fact(1, 1, one, 5), fact(2, 1, other, 5)]
            made += [rule(2, -1, -2, 2, -1, -2)]
            for body in ([1, -1, 3, -1, -2, -4, -1, -2], [-4, -1, -2, 3, -1, -2, 1, -1], [1, -1, 3, -2, 5, -4, -1, -2]):
                self.expect(made + [rule(4, *body)], (2, one, 5, 1), (2, other, 5, 0), (4, 1))
            barred = [fact(3, 1, other, 5), rule(4, 1, -1, 3, -1, -2, -4, -1, -2)]
            self.expect(made + barred, (4, 2))
            self.expect(made + barred + [fact(3, 1, one, 5)], (4, -6))

    def test_parts_of_a_circle_that_are_met_one_behind_the_other(self):
        steps = [rule(0, 8, 1, 9), rule(0, 7, 1, 8), rule(0, 2, 1, 7), fact(0, 1, 9), fact(0, 1, 1)]
        for body in ([1, 1, 1, 2], [1, 2, 1, 1], [1, 9, 1, 1, 1, 2, 1, 8], [1, 2, 1, 7, 1, 8]):
            self.expect(relations(1) + steps + [rule(0, 3, *body)], (0, 2, 3), (0, 3, 4))

    def test_a_long_way_is_found_ahead_of_a_short_one(self):
        # Within one circle of rules: 0 to 9 by ten edges, and a short cut over a relation of height 5.
        low = [fact(2, 1, 0), *[rule(at + 1, -1, at + 1, -1) for at in range(2, 7)]]
        made = relations(2, 1, *[1] * 6) + low + [fact(0, 1, at, at + 1) for at in range(10)]
        walk = [rule(1, 0), rule(1, -2, 2, -1, 1, -1, -2)]
        self.expect(made + walk, (1, 0, 1), (1, 9, 10), (1, 10, 11))
        short = rule(1, 9, 8, 0)
        self.expect(made + walk + [short], (7, 0, 5), (1, 8, 9), (1, 9, 6), (1, 10, 7))
        self.expect(made + [short] + walk, (7, 0, 5), (1, 8, 9), (1, 9, 6), (1, 10, 7))
        long = rule(1, 3, 8, 0)
        self.expect(made + [long] + walk, (1, 3, 4), (1, 4, 5))
        self.expect(made + walk + [long], (1, 3, 4), (1, 4, 5))

    def test_lower_facts_of_many_heights_meet_within_a_circle(self):
        # Gates of heights 0 to 4 along a walk: a step is as high as the walk so far or as its gate.
        made = relations(*[1] * 6)
        made += [rule(at + 1, -1, at + 1, -1) for at in range(4)] + [fact(0, 1, 9)]
        made += [fact(5, 1, 0), rule(5, 1, 6, 0, 5, 9), rule(5, 2, 6, 1, 1, 9), rule(5, 3, 6, 2, 3, 9), rule(5, 4, 6, 0, 2, 9)]
        self.expect(made, (4, 9, 4), (5, 0, 0), (5, 1, 5), (5, 2, 6), (5, 3, 7), (5, 4, 2))
        self.expect(made + [rule(5, 2, 6, 4, 4, 9)], (5, 2, 4), (5, 3, 5))

    def test_paths_by_halves(self):
        made = relations(2) + [fact(0, 1, at, at + 1) for at in range(16)] + [rule(0, -1, -3, 1, -1, -2, 1, -2, -3)]
        for far, tall in ((1, 0), (2, 1), (3, 2), (4, 2), (5, 3), (8, 3), (9, 4), (16, 4)):
            self.expect(made, (0, 0, far, tall), (0, 16 - far, 16, tall))

    def test_paths_by_single_steps(self):
        made = relations(2, 2) + [fact(0, 1, at, at + 1) for at in range(16)]
        made += [rule(1, -1, -2, 1, -1, -2), rule(1, -1, -3, 1, -1, -2, 2, -2, -3)]
        for far in range(1, 17):
            self.expect(made, (1, 0, far, far), (1, 16 - far, 16, far))

    def test_a_long_chain_of_values(self):
        made = relations(2, 1) + [fact(0, 1, at, at + 1) for at in range(198)] + [rule(1, 0)]
        self.expect(made + [rule(1, -2, 2, -1, 1, -1, -2)], *[(1, at, at + 1) for at in range(199)], (1, 199, -6))

    def test_a_long_chain_of_rules(self):
        for told, rules in ((fact(0, 1), [rule(at, at) for at in range(1, 32)]),
                            (fact(31, 1), [rule(at, at + 2) for at in range(31)])):
            for order in (rules, rules[::-1], rules[::2] + rules[1::2]):
                made = relations(*[0] * 32) + [told] + order
                self.expect(made, *[(at, at if told[1] == 0 else 31 - at) for at in range(32)])

    def test_a_circle_does_not_hold_itself_up(self):
        made = relations(0, 0) + [rule(0, 2), rule(1, 1)]
        self.expect(made, (0, -6), (1, -6))
        self.expect(made + [rule(1)], (0, 2), (1, 1))
        self.expect(made + [fact(0, 1)], (0, 0), (1, 1))

    def test_heights_rise_and_fall_as_facts_and_rules_come_and_go(self):
        calls = relations(0, 0, 0) + [rule(1, 1), rule(2, 2), fact(0, 1), height(2), fact(1, 1), height(2), fact(1, 0),
                                      height(2), rule(2), height(2), forget(2), height(2), rule(2, 1), height(2), forget(0),
                                      height(1), height(2), fact(0, 0), height(2)]
        self.assertEqual(ask_last(calls, 17), [1, 2, 1, 1, 1, 2, 2, 1, 0, 2, 2, 1, 0, -6, 1, 1, -6])


if __name__ == "__main__":
    unittest.main()
