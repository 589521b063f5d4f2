"""Point 6: what holds, count, next and height refuse."""

import unittest

from helper import HIGHEST, LOWEST, ask, ask_last, count, fact, following, height, holds, new, relations, rule

NOT_VALUES = (-1, -8, 65536, LOWEST, HIGHEST)


def all_four(number, *terms):
    return [holds(number, *terms), count(number), following(number, 1, *terms), following(number, 0, *terms),
            height(number, *terms)]


class NoSuchRelationTest(unittest.TestCase):
    def test_a_relation_that_is_not_there(self):
        for number in (-1, -2, 2, 3, 31, 32, LOWEST, HIGHEST):
            with self.subTest(number=number):
                calls = relations(0, 1) + [fact(0, 1), fact(1, 1, 5), rule(0)] + all_four(number, 5)
                self.assertEqual(ask_last(calls, 5), [-1] * 5)

    def test_no_relations_at_all(self):
        self.assertEqual(ask([new()] + all_four(0) + all_four(-1)), [0] + [-1] * 10)

    def test_no_relations_behind_a_second_new(self):
        calls = relations(0) + [fact(0, 1)] + all_four(0) + [new()] + all_four(0)
        self.assertEqual(ask_last(calls, 11), [1, 1, [0] * 4, 0, 0] + [0] + [-1] * 5)

    def test_the_last_relation_is_there(self):
        calls = relations(*[0] * 32) + all_four(31) + all_four(32)
        self.assertEqual(ask_last(calls, 10), [0, 0, 0, 0, -6] + [-1] * 5)


class NotAValueTest(unittest.TestCase):
    def test_a_term_within_the_arity(self):
        for arity in range(1, 5):
            for at in range(arity):
                for term in NOT_VALUES:
                    terms = [1, 2, 3, 4]
                    terms[at] = term
                    with self.subTest(arity=arity, terms=terms):
                        calls = relations(arity) + [fact(0, 1, 1, 2, 3, 4), holds(0, *terms), height(0, *terms)]
                        self.assertEqual(ask_last(calls, 2), [-1, -1])

    def test_the_ends_of_the_values(self):
        calls = relations(2) + [fact(0, 1, 0, 65535), holds(0, 0, 65535), height(0, 0, 65535),
                                holds(0, 65535, 0), height(0, 65535, 0)]
        self.assertEqual(ask_last(calls, 4), [1, 0, 0, -6])

    def test_terms_past_the_arity_do_not_matter(self):
        for arity in range(4):
            for term in (*NOT_VALUES, 0, 7, 65535):
                with self.subTest(arity=arity, term=term):
                    terms = [7] * arity + [term] * (4 - arity)
                    seven = [7] * arity + [0] * (4 - arity)
                    calls = relations(arity) + [fact(0, 1, *[7] * arity)] + all_four(0, *terms)
                    self.assertEqual(ask_last(calls, 5), [1, 1, seven, 0, 0])

    def test_next_takes_any_terms(self):
        for term in NOT_VALUES:
            behind = term < 0
            for at in range(4):
                terms = [1, 2, 3, 4]
                terms[at] = term
                with self.subTest(terms=terms):
                    calls = relations(4) + [fact(0, 1, 1, 2, 3, 4), following(0, 1, *terms), following(0, 0, *terms)]
                    self.assertEqual(ask_last(calls, 2), [[1, 2, 3, 4], [1, 2, 3, 4] if behind else 0])

    def test_no_relation_and_no_value_at_once(self):
        self.assertEqual(ask_last(relations(1) + [holds(1, -1), height(1, -1)], 2), [-1, -1])

    def test_questions_change_nothing(self):
        made = relations(1, 1) + [fact(0, 1, 5), rule(1, -1, 1, -1)]
        questions = [call for number in (-1, 0, 1, 2) for call in all_four(number, 5) + all_four(number, -1)]
        first = ask_last(made + questions, len(questions))
        self.assertEqual(ask_last(made + questions * 3, len(questions)), first)


class TooManyHoldTest(unittest.TestCase):
    """Such lists are not handed in, but the refusal is promised all the same."""

    def setUp(self):
        # 180 facts told, 32400 by the rule, 188 told: 32768 facts hold.
        self.calls = relations(1, 2, 1) + [rule(1, -1, -2, 1, -1, 1, -2)]
        self.calls += [fact(0, 1, value) for value in range(180)] + [fact(2, 1, value) for value in range(188)]

    def test_32768_facts_hold(self):
        questions = [count(1), count(2), holds(1, 179, 179), height(1, 0, 179), following(1, 0, 179, 178)]
        self.assertEqual(ask_last(self.calls + questions, 5), [32400, 188, 1, 1, [179, 179, 0, 0]])

    def test_one_more_holds(self):
        calls = self.calls + [fact(2, 1, 188)]
        questions = [call for number in (0, 1, 2) for call in all_four(number, 1, 1)]
        self.assertEqual(ask_last(calls + questions, 15), [-5] * 15)
        self.assertEqual(ask_last(calls + [fact(2, 0, 0), count(1), count(2)], 3), [1, 32400, 188])

    def test_other_refusals_come_first(self):
        calls = self.calls + [fact(2, 1, 188), *all_four(3), *all_four(-1), holds(0, -1), height(0, 65536)]
        self.assertEqual(ask_last(calls + [height(0, 500)], 13), [-1] * 12 + [-5])


if __name__ == "__main__":
    unittest.main()
