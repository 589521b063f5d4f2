"""Point 2: relation."""

import unittest

from helper import HIGHEST, LOWEST, ask, ask_last, new, relation, relations


class RelationTest(unittest.TestCase):
    def test_numbers_go_from_0_on(self):
        self.assertEqual(ask(relations(0, 1, 2, 3, 4)), [0, 0, 1, 2, 3, 4])

    def test_an_arity_that_is_not_0_to_4_is_refused(self):
        for arity in (-1, 5, LOWEST, HIGHEST):
            with self.subTest(arity=arity):
                self.assertEqual(ask([new(), relation(arity)]), [0, -1])

    def test_a_refused_relation_takes_no_number(self):
        self.assertEqual(ask(relations(2, -1, 2, 5, 2)), [0, 0, -1, 1, -1, 2])

    def test_32_are_taken_and_the_33rd_is_refused(self):
        full = relations(*[index % 5 for index in range(32)])
        self.assertEqual(ask(full), [0, *range(32)])
        self.assertEqual(ask_last(full + [relation(0), relation(4)], 2), [-3, -3])

    def test_a_refused_relation_takes_no_room(self):
        calls = relations(*[9] * 40) + [relation(1)] * 33
        self.assertEqual(ask_last(calls, 33), [*range(32), -3])

    def test_a_wrong_arity_comes_ahead_of_no_room(self):
        full = relations(*[0] * 32)
        for arity in (-1, 5, LOWEST, HIGHEST):
            with self.subTest(arity=arity):
                self.assertEqual(ask_last(full + [relation(arity)]), [-1])


if __name__ == "__main__":
    unittest.main()
