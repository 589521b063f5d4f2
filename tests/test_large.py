"""Large lists: as many facts, calls and ways as may come. Gone through one by one, most of these would not end."""

import itertools
import resource
import signal
import unittest

from helper import ask, ask_last, count, fact, following, forget, height, holds, relations, rule

# A program that gives no answer fails by these, and doesn't take the machine along.
MOST_MEMORY = 2 ** 31
MOST_SECONDS = 120


def joined(*rows):
    return [word for row in rows for word in row]


def ones(how_many):
    """Relation 0 is told of so many values."""
    return [fact(0, 1, value) for value in range(how_many)]


def leads_to(place, how_many):
    """Relation 0 leads from the place to so many values."""
    return [fact(0, 1, place, value) for value in range(how_many)]


def give_up(number, frame):
    raise TimeoutError(f"no answer within {MOST_SECONDS} seconds")


class LargeTest(unittest.TestCase):
    def setUp(self):
        limits = resource.getrlimit(resource.RLIMIT_AS)
        resource.setrlimit(resource.RLIMIT_AS, (MOST_MEMORY, limits[1]))
        self.addCleanup(resource.setrlimit, resource.RLIMIT_AS, limits)
        self.addCleanup(signal.signal, signal.SIGALRM, signal.signal(signal.SIGALRM, give_up))
        self.addCleanup(signal.alarm, 0)
        signal.alarm(MOST_SECONDS)


class ManyWaysTest(LargeTest):
    def test_eight_parts_that_share_no_variable(self):
        made = relations(1, 0, 1) + [fact(0, 1, value) for value in range(390)]
        parts = [[1, variable] for variable in range(-8, 0)]
        self.assertEqual(ask_last(made + [rule(1, *joined(*parts)), height(1)]), [1])
        self.assertEqual(ask_last(made + [rule(1, *joined(*parts[:7]), 3, -1), height(1)]), [-6])
        self.assertEqual(ask_last(made + [rule(1, *joined(*parts[:7]), 3, -8), height(1)]), [-6])

    def test_a_head_of_four_variables_and_a_part_that_is_never_met(self):
        made = relations(1, 2, 4, 1) + [fact(0, 1, value) for value in range(190)]
        made += [fact(1, 1, value, value + 1) for value in range(0, 200, 2)] + [fact(3, 1, value) for value in range(100)]
        four = [1, -1, 1, -2, 1, -3, 1, -4]
        for further in ([2, -5, -6, 2, -6, -7], [2, -5, -5], [4, -5, 2, -6, -5, 2, -5, -6], [-1, 7]):
            with self.subTest(further=further):
                self.assertEqual(ask_last(made + [rule(2, -1, -2, -3, -4, *four, *further), count(2)], 2), [0, 0])

    def test_a_head_of_four_variables_where_one_is_barred(self):
        told = [fact(number, 1, value) for value in range(190) for number in (0, 1)]
        made = relations(1, 1, 4) + told + [fact(0, 1, 500)]
        for at in range(1, 5):
            with self.subTest(at=at):
                four = [1, -1, 1, -2, 1, -3, 1, -4]
                barred = joined(*[[-2, -other] for other in range(1, 5)])
                self.assertEqual(ask_last(made + [rule(2, -1, -2, -3, -4, *four, *barred), count(2)]), [1])
                self.assertEqual(ask_last(made + [fact(0, 0, 500), rule(2, 1, 2, 3, -at, *four, -2, -at), count(2)]), [0])

    def test_circles_of_parts_over_all_edges(self):
        made = relations(2, 0, 2, 1) + [fact(0, 1, one, other) for one in range(19) for other in range(19)]
        ring = [[1, -at, -(at % 8 + 1)] for at in range(1, 9)]
        self.assertEqual(ask_last(made + [rule(1, *joined(*ring)), height(1)]), [1])
        self.assertEqual(ask_last(made + [rule(3, -1, *joined(*ring)), count(3)]), [19])
        self.assertEqual(ask_last(made + [rule(1, *joined(*ring[:7]), 3, -8, -1), height(1)]), [-6])
        mixed = ring[::2] + ring[1::2]
        self.assertEqual(ask_last(made + [rule(1, *joined(*mixed)), height(1)]), [1])
        self.assertEqual(ask_last(made + [rule(1, *joined(*mixed[:7]), 3, -8, -1), height(1)]), [-6])

    def test_a_star_over_all_edges(self):
        made = relations(2, 1) + [fact(0, 1, one, other) for one in range(19) for other in range(19)]
        parts = [[1, -1, -at] for at in range(2, 9)]
        self.assertEqual(ask_last(made + [rule(1, -1, *joined(*parts)), count(1)]), [19])
        self.assertEqual(ask_last(made + [rule(1, -8, *joined(*parts)), count(1)]), [19])

    def test_the_lowest_of_very_many_ways(self):
        # Relation 1 is told of 0 to 99 and follows, at 1, of 100 to 199: eight parts have their lowest way at 0.
        made = relations(1, 1, 0, 2) + [fact(0, 1, value) for value in range(100, 200)] + [rule(1, -1, 1, -1)]
        made += [fact(1, 1, value) for value in range(100)]
        parts = joined(*[[2, variable] for variable in range(-8, 0)])
        self.assertEqual(ask_last(made + [rule(2, *parts), height(2)]), [1])
        some = joined(*[[2, variable] for variable in range(-6, 0)])
        self.assertEqual(ask_last(made + [rule(2, *some, 1, -7, 2, -7), height(2)]), [2])


class PartsThatHoldTest(LargeTest):
    """Points 7 to 9: parts that can be met together in very many ways, of which few are left by another part."""

    def test_ways_out_of_one_place_in_whatever_order(self):
        made = relations(2, 4, 4) + leads_to(0, 390) + [fact(1, 1, 1, 2, 3, 4), fact(1, 1, 1, 2, 3, 999)]
        parts = [[1, -5, -1], [1, -5, -2], [1, -5, -3], [1, -5, -4], [2, -1, -2, -3, -4]]
        for order in itertools.permutations(parts):
            calls = made + [rule(2, -1, -2, -3, -4, *joined(*order)), count(2), following(2, 1), height(2, 1, 2, 3, 4)]
            self.assertEqual(ask_last(calls, 3), [1, [1, 2, 3, 4], 1], order)

    def test_a_head_that_keeps_some_of_the_variables(self):
        made = relations(2, 4, 0, 1, 2) + leads_to(0, 380) + [fact(1, 1, 1, 2, 3, at) for at in (4, 5, 999)]
        four = [1, -5, -1, 1, -5, -2, 1, -5, -3, 1, -5, -4, 2, -1, -2, -3, -4]
        self.assertEqual(ask_last(made + [rule(2, *four), height(2)]), [1])
        self.assertEqual(ask_last(made + [rule(3, -4, *four), count(3), following(3, 0, 4)], 2), [2, [5, 0, 0, 0]])
        self.assertEqual(ask_last(made + [rule(4, -4, -1, *four), count(4), height(4, 5, 1)], 2), [2, 1])
        self.assertEqual(ask_last(made + [rule(3, -5, *four), count(3), following(3, 1)], 2), [1, [0, 0, 0, 0]])

    def test_ways_into_one_place_and_out_of_another(self):
        made = relations(2, 3, 0) + leads_to(500, 190) + [fact(0, 1, value, 501) for value in range(190)]
        parts = [1, 500, -1, 1, 500, -2, 1, 500, -3, 1, -1, -4, 1, -2, -4, 1, -3, -4]
        self.assertEqual(ask_last(made + [rule(2, *parts, 2, -1, -2, -3), height(2)]), [-6])
        self.assertEqual(ask_last(made + [fact(1, 1, 3, 2, 1), rule(2, *parts, 2, -1, -2, -3), height(2)]), [1])
        self.assertEqual(ask_last(made + [fact(1, 1, 3, 2, 190), rule(2, *parts, 2, -1, -2, -3), height(2)]), [-6])

    def test_sums_that_fit_by_seven_parts_and_not_by_the_eighth(self):
        # Relation 0 has all that sum up to 0 by 19: from the fourth variable on, each is the same as the third one back.
        sums = [fact(0, 1, one, other, -(one + other) % 19) for one in range(19) for other in range(19)]
        made = relations(3, 2, 0, 2) + sums + [fact(1, 1, 5, 7), fact(3, 1, 7, 5)]
        ring = joined(*[[1, -at, -at - 1, -at - 2] for at in range(1, 7)])
        self.assertEqual(ask_last(made + [rule(2, *ring, 2, -8, -1), height(2)]), [1])
        self.assertEqual(ask_last(made + [rule(2, *ring, 2, -8, -1, 4, -8, -1), height(2)]), [-6])
        self.assertEqual(ask_last(made + [rule(2, *ring, 2, -8, -1, 4, -5, -4), height(2)]), [-6])
        self.assertEqual(ask_last(made + [rule(2, *ring, 2, -8, -1, 4, -4, -5), height(2)]), [1])
        self.assertEqual(ask_last(made + [rule(2, *ring, 2, -8, -1, 4, -7, -2), height(2)]), [1])

    def test_a_ring_of_eight_between_two_halves(self):
        # Each half is a whole graph, and the one part that leads over doesn't lead back.
        halves = [fact(0, 1, one, other) for one in range(26) for other in range(26) if one // 13 == other // 13]
        made = relations(2, 2, 0) + halves + [fact(1, 1, one, one + 13) for one in range(13)]
        ring = joined(*[[1, -at, -at - 1] for at in range(1, 8)])
        self.assertEqual(ask_last(made + [rule(2, *ring, 2, -1, -8), height(2)]), [-6])
        self.assertEqual(ask_last(made + [rule(2, *ring, 2, -1, -8), fact(1, 1, 3, 4), height(2)]), [1])

    def test_a_rule_with_its_head_among_its_parts(self):
        made = relations(2, 4, 1) + leads_to(0, 360) + [fact(1, 1, at, 7, at + 1, 8) for at in range(10)]
        four = [1, -5, -1, 1, -5, -2, 1, -5, -3, 1, -5, -4]
        made += [rule(2, -3, 3, -1, *four, 2, -1, -2, -3, -4), fact(2, 1, 0)]
        self.assertEqual(ask_last(made + [count(2), height(2, 10), height(2, 11)], 3), [11, 10, -6])
        self.assertEqual(ask_last(made + [fact(2, 1, 4), count(2), height(2, 10)], 2), [11, 6])
        self.assertEqual(ask_last(made + [fact(0, 0, 0, 7), count(2), height(2, 10)], 2), [1, -6])


class NegatedPartsTest(LargeTest):
    """Points 7 to 9: negated parts that ask for variables which the other parts leave free of one another."""

    def test_five_values_four_by_four(self):
        made = relations(1, 4, 0) + ones(200) + [fact(1, 1, value, value, value, value) for value in range(190)]
        five = joined(*[[1, -at] for at in range(1, 6)])
        barred = [-2, -1, -2, -3, -4, -2, -1, -2, -3, -5, -2, -2, -3, -4, -5]
        self.assertEqual(ask_last(made + [rule(2, *five, *barred), height(2)]), [1])
        self.assertEqual(ask_last(made + [rule(2, *barred, *five), height(2)]), [1])

    def test_four_values_that_would_have_to_rise_in_a_ring(self):
        # Relation 1 bars what doesn't rise: a below b, b below c and c below d are to be had, d below a is not.
        made = relations(1, 2, 0, 1) + ones(25) + [fact(1, 1, one, other) for one in range(25) for other in range(one + 1)]
        four = joined(*[[1, -at] for at in range(1, 5)])
        rising = joined(*[[-2, -at, -at - 1] for at in range(1, 4)])
        self.assertEqual(ask_last(made + [rule(2, *four, *rising), height(2)]), [1])
        self.assertEqual(ask_last(made + [rule(3, -1, *four, *rising), count(3), following(3, 0, 20)], 2), [22, [21, 0, 0, 0]])
        ring = made + [rule(2, *four, *rising, -2, -4, -1)]
        self.assertEqual(ask_last(ring + [height(2)]), [-6])
        self.assertEqual(ask_last(ring + [fact(1, 0, 9, 9), height(2), fact(1, 1, 9, 9), height(2)], 4), [1, 1, 1, -6])
        self.assertEqual(ask_last(ring + [fact(1, 0, 24, 0), height(2)]), [1])

    def test_parts_out_of_two_places(self):
        # From 0 or 1 to 90 values each; all ways by 0 are barred, and those by 1 but for the value 5.
        made = relations(2, 2, 1, 1) + leads_to(0, 90) + leads_to(1, 90)
        made += [fact(1, 1, 0, value) for value in range(90)] + [fact(1, 1, 1, value) for value in range(90) if value != 5]
        parts = joined(*[[1, -1, -at] for at in range(2, 6)])
        barred = joined(*[[-2, -1, -at] for at in range(2, 6)])
        self.assertEqual(ask_last(made + [rule(2, -1, *parts, *barred), count(2), following(2, 1)], 2), [1, [1, 0, 0, 0]])
        self.assertEqual(ask_last(made + [rule(2, -4, *parts, *barred), count(2), following(2, 1)], 2), [1, [5, 0, 0, 0]])
        self.assertEqual(ask_last(made + [fact(1, 1, 1, 5), rule(2, -4, *parts, *barred), count(2)]), [0])

    def test_a_part_that_is_barred_for_all_its_values_amid_free_ones(self):
        made = relations(2, 2, 0) + [fact(0, 1, value, (value + 1) % 190) for value in range(190)]
        made += [fact(1, 1, value, (value + 1) % 190) for value in range(190)]
        free = [1, -3, -4, 1, -5, -6, 1, -7, -8]
        ties = [-2, -3, -2, -2, -1, -5, -2, -7, -4]
        self.assertEqual(ask_last(made + [rule(2, *free, 1, -1, -2, *ties, -2, -1, -2), height(2)]), [-6])
        self.assertEqual(ask_last(made + [rule(2, *free, 1, -1, -2, *ties, -2, -2, -1), height(2)]), [1])

    def test_the_lowest_of_many_heights(self):
        # Relation 0 climbs along relation 3, one value a height, and what is barred leaves a, or a and b, from 60 on.
        made = relations(1, 4, 0, 2) + [fact(3, 1, value, value + 1) for value in range(100)]
        made += [rule(0, -2, 1, -1, 4, -1, -2), fact(0, 1, 0)]
        made += [fact(1, 1, value, value, value, value) for value in range(60)]
        four = joined(*[[1, -at] for at in range(1, 5)])
        self.assertEqual(ask_last(made + [rule(2, *four, -2, -1, -1, -1, -1), height(2)]), [61])
        barred = [-2, -1, -1, -1, -1, -2, -2, -2, -2, -2, -2, -1, -2, -3, -4, -2, -4, -3, -2, -1]
        self.assertEqual(ask_last(made + [rule(2, *four, *barred), height(2)]), [61])
        self.assertEqual(ask_last(made + [rule(2, *four, *barred), fact(3, 0, 59, 60), height(2)]), [-6])
        self.assertEqual(ask_last(made + [rule(2, *four, *barred), fact(1, 0, 7, 7, 7, 7), height(2)]), [8])

    def test_a_rule_with_its_head_among_its_parts(self):
        made = relations(1, 2, 3, 1) + ones(340) + [fact(1, 1, at, at + 1) for at in range(12)] + [fact(3, 1, 0)]
        climb = [4, -1, 2, -1, -2, 1, -3, 1, -4, -3, -2, -3, -4, -3, -1, -4, -3]
        made += [fact(2, 1, 6, value, value) for value in range(20)] + [rule(3, -2, *climb)]
        self.assertEqual(ask_last(made + [count(3), height(3, 12)], 2), [13, 12])
        self.assertEqual(ask_last(made + [fact(1, 1, 2, 9), height(3, 12), height(3, 9)], 2), [6, 3])


class ManyCallsTest(LargeTest):
    def test_a_thousand_calls_on_a_growing_graph(self):
        # A chain of 27 edges, one more told and asked for at a time: 378 paths and edges hold in the end.
        made = relations(2) + [rule(0, -1, -3, 1, -1, -2, 1, -2, -3)]
        calls = list(made)
        expected = [0, 0, 0]
        for at in range(27):
            calls += [fact(0, 1, at, at + 1), count(0), holds(0, 0, at + 1), holds(0, at + 1, 0)]
            expected += [1, (at + 1) * (at + 2) // 2, 1, 0]
        while len(calls) < 998:
            calls += [fact(0, 0, 13, 14), count(0), fact(0, 1, 13, 14), height(0, 0, 27)]
            expected += [1, 13 * 14 // 2 + 13 * 14 // 2, 1, 5]
        self.assertLessEqual(len(calls), 1000)
        self.assertEqual(ask(calls), expected)

    def test_a_long_chain_that_is_cut_again_and_again(self):
        calls = relations(2, 1) + [fact(0, 1, at, at + 1) for at in range(198)]
        calls += [rule(1, 0), rule(1, -2, 2, -1, 1, -1, -2)]
        turns = [(37 * turn) % 198 for turn in range(150)]
        for at in turns:
            calls += [fact(0, 0, at, at + 1), count(1), fact(0, 1, at, at + 1), height(1, 198)]
        self.assertEqual(ask_last(calls, 600), [answer for at in turns for answer in (1, at + 1, 1, 199)])

    def test_64_rules_that_stand_again(self):
        made = relations(2) + [rule(0, -1, -3, 1, -1, -2, 1, -2, -3)] * 64
        made += [fact(0, 1, at, (at + 1) % 19) for at in range(19)]
        calls = made + [fact(0, 0, 0, 1), count(0), fact(0, 1, 0, 1), count(0)] * 20 + [forget(63), count(0)]
        self.assertEqual(ask_last(calls, 82), [1, 171, 1, 361] * 20 + [0, 361])

    def test_rules_that_come_and_go(self):
        made = relations(*[1] * 32) + [fact(0, 1, value) for value in range(10)]
        made += [rule(at, -1, at, -1) for at in range(1, 32)]
        turns = [(7 * turn) % 31 for turn in range(200)]
        calls = list(made)
        for at in turns:
            calls += [forget(at), count(31), rule(at + 1, -1, at + 1, -1), height(31, 9)]
        self.assertEqual(ask_last(calls, 800), [answer for at in turns for answer in (0, 0, at, 31)])


if __name__ == "__main__":
    unittest.main()
