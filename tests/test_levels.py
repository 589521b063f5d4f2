"""Point 3: a rule that can't be given levels with the rules that there are is refused with -4."""

import itertools
import random
import unittest

from helper import ask, ask_last, fact, forget, relations, rule


def levels_exist(how_many, steps):
    """Tries all levels. A step is a head, a part's relation, and 1 where the part is negated, else 0."""
    for levels in itertools.product(range(how_many), repeat=how_many):
        if all(levels[head] >= levels[part] + negated for head, part, negated in steps):
            return True
    return False


def step_rule(step):
    head, part, negated = step
    return rule(head, -(part + 1) if negated else part + 1)


def expected_answers(how_many, steps):
    """What is answered where each of the steps is handed in as a rule, one behind another."""
    taken = []
    expected = []
    for step in steps:
        if levels_exist(how_many, taken + [step]):
            expected.append(len(taken))
            taken.append(step)
        else:
            expected.append(-4)
    return expected


class LevelsTest(unittest.TestCase):
    def test_a_rule_by_itself(self):
        self.assertEqual(ask_last(relations(0, 0) + [rule(0, -1)]), [-4])
        self.assertEqual(ask_last(relations(0, 0) + [rule(0, 1, 2, -1)]), [-4])
        self.assertEqual(ask_last(relations(1) + [rule(0, -1, 1, -1, -1, 5)]), [-4])

    def test_levels_are_of_relations_whatever_the_values(self):
        self.assertEqual(ask_last(relations(1) + [rule(0, 1, -1, 2)]), [-4])

    def test_a_negated_part_within_a_circle_of_two(self):
        made = relations(0, 0)
        self.assertEqual(ask_last(made + [rule(0, -2), rule(1, 1)], 2), [0, -4])
        self.assertEqual(ask_last(made + [rule(0, 2), rule(1, -1)], 2), [0, -4])
        self.assertEqual(ask_last(made + [rule(0, -2), rule(1, -1)], 2), [0, -4])

    def test_circles_with_no_negated_part_are_taken(self):
        calls = relations(0, 0, 0) + [rule(0, 1), rule(0, 2), rule(1, 3), rule(2, 1), rule(1, 1)]
        self.assertEqual(ask_last(calls, 5), [0, 1, 2, 3, 4])

    def test_negated_parts_outside_a_circle_are_taken(self):
        calls = relations(0, 0, 0, 0) + [rule(0, 2), rule(1, 1), rule(2, -1, -2), rule(0, -4), rule(2, 3)]
        self.assertEqual(ask_last(calls, 5), [0, 1, 2, 3, 4])

    def test_a_long_circle_through_all_32_relations(self):
        for negated_at in (0, 1, 15, 30, 31):
            with self.subTest(negated_at=negated_at):
                chain = [step_rule((at, (at + 1) % 32, int(at == negated_at))) for at in range(32)]
                expected = [*range(31), -4]
                self.assertEqual(ask_last(relations(*[0] * 32) + chain, 32), expected)
                self.assertEqual(ask_last(relations(*[0] * 32) + chain[::-1], 32), expected)

    def test_a_long_circle_without_a_negated_part(self):
        chain = [rule(at, (at + 1) % 32 + 1) for at in range(32)]
        self.assertEqual(ask_last(relations(*[0] * 32) + chain, 32), [*range(32)])

    def test_32_levels_one_above_another_are_taken(self):
        made = relations(*[0] * 32)
        rising = [rule(at, -at) for at in range(1, 32)]
        self.assertEqual(ask_last(made + rising, 31), [*range(31)])
        self.assertEqual(ask_last(made + rising[::-1], 31), [*range(31)])
        for last in (rule(0, 32), rule(0, -32), rule(15, 32)):
            self.assertEqual(ask_last(made + rising + [last]), [-4])
            self.assertEqual(ask_last(made + rising[::-1] + [last]), [-4])

    def test_a_circle_through_several_parts_of_one_rule(self):
        calls = relations(0, 0, 0, 0) + [rule(0, 2, -3, 4), rule(3, 3), rule(2, 1), rule(1, 1)]
        self.assertEqual(ask_last(calls, 4), [0, 1, -4, 2])

    def test_a_refused_rule_counts_no_more(self):
        calls = relations(0, 0) + [rule(0, 1, -1, 2), rule(1, 1), rule(0, -2), rule(0, 2)]
        self.assertEqual(ask_last(calls, 4), [-4, 0, -4, 1])

    def test_a_forgotten_rule_counts_no_more(self):
        calls = relations(0, 0) + [rule(0, -2), rule(1, 1), forget(0), rule(1, 1), rule(0, -2)]
        self.assertEqual(ask_last(calls, 5), [0, -4, 0, 0, -4])

    def test_a_rule_that_stands_twice_counts_until_both_are_forgotten(self):
        calls = relations(0, 0) + [rule(0, -2), rule(0, -2), forget(0), rule(1, 1), forget(1), rule(1, 1)]
        self.assertEqual(ask_last(calls, 6), [0, 1, 0, -4, 0, 0])

    def test_facts_do_not_count(self):
        calls = relations(0, 0) + [fact(0, 1), fact(1, 1), rule(0, -2), rule(1, 1)]
        self.assertEqual(ask_last(calls, 4), [1, 1, 0, -4])

    def test_all_rows_of_three_rules_of_one_part(self):
        every_step = list(itertools.product(range(3), range(3), (0, 1)))
        for steps in itertools.product(every_step, repeat=3):
            self.assertEqual(ask_last(relations(0, 0, 0) + [step_rule(step) for step in steps], 3),
                             expected_answers(3, steps), steps)

    def test_many_rows_of_rules_of_four_relations(self):
        source = random.Random(20261116)
        for turn in range(200):
            steps = [(source.randrange(4), source.randrange(4), int(source.randrange(3) == 0)) for at in range(9)]
            self.assertEqual(ask(relations(0, 0, 0, 0) + [step_rule(step) for step in steps])[5:],
                             expected_answers(4, steps), steps)


if __name__ == "__main__":
    unittest.main()
