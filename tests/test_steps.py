"""How many steps a search takes, for rules that took millions by a lesser choice of the next step or of the reason."""

import unittest
from unittest import mock

from factsandrules import searches
from factsandrules.searches import Search
from helper import ask_last, count, fact, height, relations, rule

GO_ON = Search.go_on


class StepsTest(unittest.TestCase):
    def check(self, made, asked, due, most_steps):
        steps = []

        def counted(search, bound, added, others, reason):
            steps.append(True)
            return GO_ON(search, bound, added, others, reason)

        with mock.patch.object(Search, "go_on", counted):
            self.assertEqual(ask_last(made + [asked]), [due])
        self.assertGreater(len(steps), 0)
        self.assertLess(len(steps), most_steps)

    def test_one_place_that_leads_to_many(self):
        # One of the negated parts is never met, as 0 alone leads to anything.
        made = relations(2, 4) + [fact(0, 1, 0, value) for value in range(199)]
        parts = [1, -7, -1, -1, -4, -1, 1, -7, -6, 1, -8, -5, 1, -4, -5, -1, -5, -6, 1, -7, -2, 1, 0, -8]
        self.check(made + [rule(1, -2, -1, -1, -2, *parts)], count(1), 0, 2000)

    def test_twos_that_have_nothing_in_common(self):
        # A part is asked for, and the same one negated.
        made = relations(2, 0) + [fact(0, 1, value, (156 - value) % 399) for value in range(399)]
        parts = [-1, -6, -7, -1, -3, -4, 1, -5, -4, 1, -7, -1, 1, -3, -2, 1, -6, -3, -1, -6, -3, -1, -3, -1]
        self.check(made + [rule(1, *parts)], height(1), -6, 5000)

    def test_an_order(self):
        made = relations(2, 1) + [fact(0, 1, one, other) for other in range(26) for one in range(other + 1)]
        parts = [-1, -2, -4, 1, -8, -6, 1, -1, -3, -1, -4, -8, 1, -4, -5, 1, -2, -2, 1, -3, -5, -1, -5, -6]
        self.check(made + [rule(1, -4, *parts)], count(1), 24, 10000)

    def test_values_that_differ(self):
        # The sixth variable must be the same as the seventh and the fourth, which must differ.
        made = relations(2, 1) + [fact(0, 1, one, other) for one in range(19) for other in range(19) if one != other]
        parts = [1, -5, -1, -1, -6, -8, 1, -1, -8, -1, -6, -7, -1, -6, -4, 1, -6, -5, 1, -7, -4, 1, -4, 0]
        self.check(made + [rule(1, -4, *parts)], count(1), 0, 10000)

    def test_values_of_two_kinds(self):
        # By the parts but the last one, the sixth variable and the seventh are both even or both odd.
        made = relations(2, 0) + [fact(0, 1, one, other) for one in range(28) for other in range(28) if (one + other) % 2]
        parts = [1, -3, -2, 1, -5, -7, 1, -8, -2, -1, -4, -2, 1, -8, -4, 1, -5, -3, 1, -4, -6, 1, -6, -7]
        self.check(made + [rule(1, *parts)], height(1), -6, 150000)

    def test_heads_that_many_ways_lead_to(self):
        made = relations(2, 2) + [fact(0, 1, one, other) for one in range(14) for other in range(14)]
        parts = [1, -1, -2, 1, -2, -3, 1, -3, -4, 1, -4, -5, 1, -5, -6]
        self.check(made + [rule(1, -1, -6, *parts)], count(1), 196, 50000)


class NotedTest(unittest.TestCase):
    def test_no_more_dead_ends_are_kept_than_may_be(self):
        note = Search.note_dead_end
        sizes = []

        def measured(search, bound, reason):
            note(search, bound, reason)
            sizes.append(sum(len(values) for values in search.noted.values()))

        made = relations(2, 1) + [fact(0, 1, one, other) for one in range(19) for other in range(19) if one != other]
        parts = [1, -5, -1, -1, -6, -8, 1, -1, -8, -1, -6, -7, -1, -6, -4, 1, -6, -5, 1, -7, -4, 1, -4, 0]
        with mock.patch.object(searches, "MOST_NOTED", 10), mock.patch.object(Search, "note_dead_end", measured):
            self.assertEqual(ask_last(made + [rule(1, -4, *parts), count(1)]), [0])
        self.assertEqual(max(sizes), 10)


if __name__ == "__main__":
    unittest.main()
