"""Large lists: as many facts, calls and ways as may come. Gone through one by one, most of these would not end."""

import unittest

from helper import ask, ask_last, count, fact, forget, height, holds, relations, rule


def joined(*rows):
    return [word for row in rows for word in row]


class ManyWaysTest(unittest.TestCase):
    def test_eight_parts_that_share_no_variable(self):
        made = relations(1, 0, 1) + [fact(0, 1, value) for value in range(390)]
        parts = [[1, variable] for variable in range(-8, 0)]
        self.assertEqual(ask_last(made + [rule(1, *joined(*parts)), height(1)]), [1])
        self.assertEqual(ask_last(made + [rule(1, *joined(*parts[:7]), 3, -1), height(1)]), [-6])
        self.assertEqual(ask_last(made + [rule(1, *joined(*parts[:7]), 3, -8), height(1)]), [-6])

    def test_a_head_of_four_variables_and_a_part_that_is_never_met(self):
        made = relations(1, 2, 4, 1) + [fact(0, 1, value) for value in range(190)]
        made += [fact(1, 1, value, value + 1) for value in range(0, 200, 2)] + [fact(3, 1, value) for value in range(100)]
        four = [1, -1, 1, -2, 1, -3, 1, -4]
        for further in ([2, -5, -6, 2, -6, -7], [2, -5, -5], [4, -5, 2, -6, -5, 2, -5, -6], [-1, 7]):
            with self.subTest(further=further):
                self.assertEqual(ask_last(made + [rule(2, -1, -2, -3, -4, *four, *further), count(2)], 2), [0, 0])

    def test_a_head_of_four_variables_where_one_is_barred(self):
        told = [fact(number, 1, value) for value in range(190) for number in (0, 1)]
        made = relations(1, 1, 4) + told + [fact(0, 1, 500)]
        for at in range(1, 5):
            with self.subTest(at=at):
                four = [1, -1, 1, -2, 1, -3, 1, -4]
                barred = joined(*[[-2, -other] for other in range(1, 5)])
                self.assertEqual(ask_last(made + [rule(2, -1, -2, -3, -4, *four, *barred), count(2)]), [1])
                self.assertEqual(ask_last(made + [fact(0, 0, 500), rule(2, 1, 2, 3, -at, *four, -2, -at), count(2)]), [0])

    def test_circles_of_parts_over_all_edges(self):
        made = relations(2, 0, 2, 1) + [fact(0, 1, one, other) for one in range(19) for other in range(19)]
        ring = [[1, -at, -(at % 8 + 1)] for at in range(1, 9)]
        self.assertEqual(ask_last(made + [rule(1, *joined(*ring)), height(1)]), [1])
        self.assertEqual(ask_last(made + [rule(3, -1, *joined(*ring)), count(3)]), [19])
        self.assertEqual(ask_last(made + [rule(1, *joined(*ring[:7]), 3, -8, -1), height(1)]), [-6])
        mixed = ring[::2] + ring[1::2]
        self.assertEqual(ask_last(made + [rule(1, *joined(*mixed)), height(1)]), [1])
        self.assertEqual(ask_last(made + [rule(1, *joined(*mixed[:7]), 3, -8, -1), height(1)]), [-6])

    def test_a_star_over_all_edges(self):
        made = relations(2, 1) + [fact(0, 1, one, other) for one in range(19) for other in range(19)]
        parts = [[1, -1, -at] for at in range(2, 9)]
        self.assertEqual(ask_last(made + [rule(1, -1, *joined(*parts)), count(1)]), [19])
        self.assertEqual(ask_last(made + [rule(1, -8, *joined(*parts)), count(1)]), [19])

    def test_the_lowest_of_very_many_ways(self):
        # Relation 1 is told of 0 to 99 and follows, at 1, of 100 to 199: eight parts have their lowest way at 0.
        made = relations(1, 1, 0, 2) + [fact(0, 1, value) for value in range(100, 200)] + [rule(1, -1, 1, -1)]
        made += [fact(1, 1, value) for value in range(100)]
        parts = joined(*[[2, variable] for variable in range(-8, 0)])
        self.assertEqual(ask_last(made + [rule(2, *parts), height(2)]), [1])
        some = joined(*[[2, variable] for variable in range(-6, 0)])
        self.assertEqual(ask_last(made + [rule(2, *some, 1, -7, 2, -7), height(2)]), [2])


class ManyCallsTest(unittest.TestCase):
    def test_a_thousand_calls_on_a_growing_graph(self):
        # A chain of 27 edges, one more told and asked for at a time: 378 paths and edges hold in the end.
        made = relations(2) + [rule(0, -1, -3, 1, -1, -2, 1, -2, -3)]
        calls = list(made)
        expected = [0, 0, 0]
        for at in range(27):
            calls += [fact(0, 1, at, at + 1), count(0), holds(0, 0, at + 1), holds(0, at + 1, 0)]
            expected += [1, (at + 1) * (at + 2) // 2, 1, 0]
        while len(calls) < 998:
            calls += [fact(0, 0, 13, 14), count(0), fact(0, 1, 13, 14), height(0, 0, 27)]
            expected += [1, 13 * 14 // 2 + 13 * 14 // 2, 1, 5]
        self.assertLessEqual(len(calls), 1000)
        self.assertEqual(ask(calls), expected)

    def test_a_long_chain_that_is_cut_again_and_again(self):
        calls = relations(2, 1) + [fact(0, 1, at, at + 1) for at in range(198)]
        calls += [rule(1, 0), rule(1, -2, 2, -1, 1, -1, -2)]
        turns = [(37 * turn) % 198 for turn in range(150)]
        for at in turns:
            calls += [fact(0, 0, at, at + 1), count(1), fact(0, 1, at, at + 1), height(1, 198)]
        self.assertEqual(ask_last(calls, 600), [answer for at in turns for answer in (1, at + 1, 1, 199)])

    def test_64_rules_that_stand_again(self):
        made = relations(2) + [rule(0, -1, -3, 1, -1, -2, 1, -2, -3)] * 64
        made += [fact(0, 1, at, (at + 1) % 19) for at in range(19)]
        calls = made + [fact(0, 0, 0, 1), count(0), fact(0, 1, 0, 1), count(0)] * 20 + [forget(63), count(0)]
        self.assertEqual(ask_last(calls, 82), [1, 171, 1, 361] * 20 + [0, 361])

    def test_rules_that_come_and_go(self):
        made = relations(*[1] * 32) + [fact(0, 1, value) for value in range(10)]
        made += [rule(at, -1, at, -1) for at in range(1, 32)]
        turns = [(7 * turn) % 31 for turn in range(200)]
        calls = list(made)
        for at in turns:
            calls += [forget(at), count(31), rule(at + 1, -1, at + 1, -1), height(31, 9)]
        self.assertEqual(ask_last(calls, 800), [answer for at in turns for answer in (0, 0, at, 31)])


if __name__ == "__main__":
    unittest.main()
