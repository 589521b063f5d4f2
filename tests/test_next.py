"""Point 8: next."""

import unittest

from helper import HIGHEST, LOWEST, ask_last, count, fact, following, relations, rule


def walk(made, number):
    """The facts of the relation, by next, from the first to the last."""
    found = []
    step = following(number, 1)
    # A walk that goes in a circle would never come to its end.
    while len(found) <= 400:
        answered = ask_last(made + [step])[0]
        if answered == 0:
            return found
        found.append(answered)
        step = following(number, 0, *answered)
    raise AssertionError(f"the walk doesn't end: {found[:9]}")


class FirstTest(unittest.TestCase):
    def test_any_first_but_0_gives_the_first_fact(self):
        made = relations(2) + [fact(0, 1, 6, 1), fact(0, 1, 5, 9), fact(0, 1, 5, 8)]
        for first in (1, -1, 2, 256, 65536, LOWEST, HIGHEST):
            for terms in ((0, 0), (5, 8), (5, 9), (9, 9), (LOWEST, HIGHEST), (HIGHEST, LOWEST)):
                with self.subTest(first=first, terms=terms):
                    self.assertEqual(ask_last(made + [following(0, first, *terms)]), [[5, 8, 0, 0]])

    def test_there_is_none(self):
        made = relations(2, 1) + [fact(1, 1, 5)]
        self.assertEqual(ask_last(made + [following(0, 1), following(0, 0), following(0, 0, -1, -1)], 3), [0, 0, 0])
        self.assertEqual(ask_last(made + [fact(1, 0, 5), following(1, 1)]), [0])

    def test_numbers_past_the_arity_are_0(self):
        for arity in range(5):
            made = relations(arity) + [fact(0, 1, 5, 6, 7, 8)]
            expected = [5, 6, 7, 8][:arity] + [0] * (4 - arity)
            self.assertEqual(ask_last(made + [following(0, 1, 9, 9, 9, 9)]), [expected])

    def test_a_fact_of_0s(self):
        for arity in range(1, 5):
            made = relations(arity) + [fact(0, 1, 0, 0, 0, 0)]
            calls = made + [following(0, 1), following(0, 0, -1, 5, 5, 5), following(0, 0, 0, 0, 0, 0)]
            self.assertEqual(ask_last(calls, 3), [[0] * 4, [0] * 4, 0])

    def test_arity_0(self):
        for terms in ((0, 0, 0, 0), (-1, -1, -1, -1), (LOWEST,) * 4, (HIGHEST,) * 4):
            calls = [following(0, 1, *terms), following(0, 0, *terms)]
            self.assertEqual(ask_last(relations(0) + [fact(0, 1)] + calls, 2), [[0] * 4, 0])
            self.assertEqual(ask_last(relations(0) + calls, 2), [0, 0])


class BehindTest(unittest.TestCase):
    def expect(self, made, *rows):
        for terms, answer in rows:
            with self.subTest(terms=terms):
                self.assertEqual(ask_last(made + [following(0, 0, *terms)]), [answer])

    def test_one_number(self):
        made = relations(1) + [fact(0, 1, value) for value in (65535, 5, 10, 9, 0)]
        self.expect(made, ((-1,), [0] * 4), ((0,), [5, 0, 0, 0]), ((1,), [5, 0, 0, 0]), ((4,), [5, 0, 0, 0]),
                    ((5,), [9, 0, 0, 0]), ((9,), [10, 0, 0, 0]), ((10,), [65535, 0, 0, 0]),
                    ((65534,), [65535, 0, 0, 0]), ((65535,), 0), ((65536,), 0), ((LOWEST,), [0] * 4), ((HIGHEST,), 0))

    def test_the_first_number_that_differs(self):
        made = relations(2) + [fact(0, 1, *row) for row in ((1, 9), (2, 1), (2, 10), (2, 9), (10, 0))]
        self.expect(made, ((1, 9), [2, 1, 0, 0]), ((1, 65535), [2, 1, 0, 0]), ((2, 0), [2, 1, 0, 0]),
                    ((2, 1), [2, 9, 0, 0]), ((2, 9), [2, 10, 0, 0]), ((2, 10), [10, 0, 0, 0]), ((3, 0), [10, 0, 0, 0]),
                    ((10, -1), [10, 0, 0, 0]), ((10, 0), 0), ((0, HIGHEST), [1, 9, 0, 0]), ((2, HIGHEST), [10, 0, 0, 0]),
                    ((3, LOWEST), [10, 0, 0, 0]), ((10, LOWEST), [10, 0, 0, 0]), ((11, LOWEST), 0))

    def test_each_of_four_numbers_in_turn(self):
        rows = [(1, 1, 1, 1), (1, 1, 1, 2), (1, 1, 2, 0), (1, 2, 0, 0), (2, 0, 0, 0)]
        made = relations(4) + [fact(0, 1, *row) for row in rows[::-1]]
        self.expect(made, *[(rows[at], list(rows[at + 1])) for at in range(4)], (rows[4], 0))
        self.expect(made, ((1, 1, 1, -5), [1, 1, 1, 1]), ((1, 1, 1, 65536), [1, 1, 2, 0]), ((1, 1, -1, 7), [1, 1, 1, 1]),
                    ((1, -1, 7, 7), [1, 1, 1, 1]), ((1, 1, HIGHEST, LOWEST), [1, 2, 0, 0]))

    def test_terms_past_the_arity_do_not_matter(self):
        for term in (LOWEST, -1, 0, 1, HIGHEST):
            made = relations(2) + [fact(0, 1, 5, 5), fact(0, 1, 5, 6)]
            self.expect(made, ((5, 5, term, term), [5, 6, 0, 0]), ((5, 6, term, term), 0), ((5, 4, term, term), [5, 5, 0, 0]))

    def test_other_relations_are_not_looked_at(self):
        made = relations(1, 1) + [fact(0, 1, 5), fact(1, 1, 4), fact(1, 1, 6)]
        self.expect(made, ((0,), [5, 0, 0, 0]), ((5,), 0))


class WalkTest(unittest.TestCase):
    def test_a_walk_over_told_facts_and_others(self):
        rows = [(7 * at % 23, 11 * at % 19) for at in range(40)]
        made = relations(2, 2) + [fact(0, 1, *row) for row in rows[:30]] + [fact(1, 1, *row) for row in rows[20:]]
        made += [rule(1, -1, -2, 1, -1, -2), rule(1, -2, -2, 1, -1, -2)]
        expected = sorted(set(rows) | {(second, second) for first, second in rows[:30]})
        self.assertEqual(walk(made, 1), [[*row, 0, 0] for row in expected])
        self.assertEqual(ask_last(made + [count(1)]), [len(expected)])

    def test_a_walk_of_each_arity(self):
        for arity in range(5):
            made = relations(arity) + [fact(0, 1, at % 2, at // 2 % 2, at // 4 % 2, at // 8 % 2) for at in range(16)]
            found = walk(made, 0)
            self.assertEqual(found, sorted(found))
            self.assertEqual([len(found)], ask_last(made + [count(0)]))
            self.assertEqual(len(found), 2 ** arity)

    def test_what_holds_no_more_is_walked_past(self):
        made = relations(1, 1) + [fact(0, 1, value) for value in (3, 5, 7)] + [rule(1, -1, 1, -1)]
        calls = made + [following(1, 0, 3), fact(0, 0, 5), following(1, 0, 3), fact(0, 0, 3), following(1, 1),
                        following(1, 0, 5), fact(0, 1, 4), following(1, 0, 3)]
        self.assertEqual(ask_last(calls, 8), [[5, 0, 0, 0], 1, [7, 0, 0, 0], 1, [7, 0, 0, 0], [7, 0, 0, 0], 1, [4, 0, 0, 0]])


if __name__ == "__main__":
    unittest.main()
