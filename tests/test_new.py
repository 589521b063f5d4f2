"""Point 1: new."""

import unittest

from helper import ask, fact, forget, new, relation, relations, rule


class NewTest(unittest.TestCase):
    def test_answers_0(self):
        self.assertEqual(ask([new()]), [0])
        self.assertEqual(ask([new(), new(), new()]), [0, 0, 0])

    def test_a_first_new_has_nothing(self):
        calls = [new(), forget(0), fact(0, 1), rule(0), relation(0)]
        self.assertEqual(ask(calls), [0, -1, -1, -1, 0])

    def test_a_second_new_leaves_no_relations(self):
        calls = relations(1, 2) + [new(), fact(0, 1, 5), rule(0, 5), relation(3), relation(1)]
        self.assertEqual(ask(calls), [0, 0, 1, 0, -1, -1, 0, 1])

    def test_a_second_new_leaves_room_for_32_relations(self):
        calls = relations(*[0] * 32) + relations(*[0] * 32)
        self.assertEqual(ask(calls), [0, *range(32)] * 2)

    def test_a_second_new_leaves_no_rules(self):
        made = relations(0, 0) + [rule(0, -2)]
        calls = made + relations(0, 0) + [forget(0), rule(1, 1), rule(1, 1)]
        self.assertEqual(ask(calls), [0, 0, 1, 0] + [0, 0, 1, -1, 0, 1])

    def test_a_second_new_leaves_no_facts(self):
        made = relations(1) + [fact(0, 1, 7)]
        self.assertEqual(ask(made + made), [0, 0, 1] * 2)
        self.assertEqual(ask(made + relations(1) + [fact(0, 0, 7)]), [0, 0, 1, 0, 0, 0])


if __name__ == "__main__":
    unittest.main()
