"""Drawn rules of up to eight parts, one at a time, against trying all values for all their variables."""

import itertools
import random
import unittest
from unittest import mock

from factsandrules import searches, walks
from helper import ask, count, fact, following, height, new, relation, rule

MOST_FACTS = 30
MOST_HEIGHT = 3

# How many values there are, and the most variables that a rule may have then: all ways to give them are tried.
SIZES = ((2, 8), (3, 7), (4, 5), (6, 4), (12, 3))


class Drawn:
    """Relations with facts at several heights, and a rule that draws from them.

    Relation 0 is a ladder: it holds of 0 at height 0, of 1 at height 1, and so on. The relations that the rule draws
    from come in twos: what is told of the first, with a rung of the ladder behind it, holds of the second one height
    above it. The last relation is the rule's head.
    """

    def __init__(self, seed):
        self.source = random.Random(seed)
        how_many, self.most_variables = self.source.choice(SIZES)
        self.values = list(range(how_many))
        self.arities = [1]
        self.heights = {(0, (rung,)): rung for rung in range(MOST_HEIGHT + 1)}
        self.calls = [new(), relation(1), fact(0, 1, 0)]
        self.calls += [rule(0, rung + 1, 1, rung) for rung in range(MOST_HEIGHT)]
        self.bases = [self.add_base() for at in range(self.source.randint(1, 3))]
        self.head = len(self.arities)
        self.arities.append(self.source.choice([0, 1, 1, 2, 3]))
        self.calls.append(relation(self.arities[-1]))
        self.is_recursive = self.source.randrange(3) == 0
        self.tell_heads()
        self.parts = self.draw_parts()
        self.head_terms = self.draw_head_terms()

    def add_base(self):
        arity = self.source.choice([0, 1, 1, 2, 2, 2, 3, 3])
        raised = len(self.arities) + 1
        self.arities += [arity + 1, arity]
        self.calls += [relation(arity + 1), relation(arity)]
        variables = range(-arity, 0)
        self.calls.append(rule(raised, *variables, raised, *variables, -8, 1, -8))
        rows = list(itertools.product(self.values, repeat=arity))
        dense = self.source.choice([0.2, 0.5, 0.8, 0.95])
        rows = [row for row in rows if self.source.random() < dense]
        self.source.shuffle(rows)
        most = self.source.choice([0, 0, 1, MOST_HEIGHT + 1])
        for row in rows[:MOST_FACTS]:
            tall = self.source.randint(0, most)
            self.heights[(raised, row)] = tall
            if tall == 0:
                self.calls.append(fact(raised, 1, *row))
            else:
                self.calls.append(fact(raised - 1, 1, *row, tall - 1))
                self.heights[(raised - 1, (*row, tall - 1))] = 0
        return raised

    def tell_heads(self):
        for at in range(self.source.choice([0, 1, 3])):
            row = tuple(self.source.choice(self.values) for at in range(self.arities[-1]))
            self.calls.append(fact(self.head, 1, *row))
            self.heights[(self.head, row)] = 0

    def draw_terms(self, number, variables):
        """Terms for a part: mostly variables, and mostly different ones."""
        terms = self.source.sample(variables, min(self.arities[number], len(variables)))
        while len(terms) < self.arities[number]:
            terms.append(self.source.choice(variables) if variables else self.source.choice(self.values))
        return [self.source.choice(self.values) if self.source.randrange(12) == 0 else term for term in terms]

    def draw_parts(self):
        """Parts, each a sign, a relation and terms; those that aren't negated bind all variables."""
        variables = self.source.sample(range(-8, 0), self.source.randint(1, self.most_variables))
        how_many = self.source.randint(1, 8)
        how_many_negated = self.source.choice([0, 0, self.source.randint(0, how_many)])
        parts = []
        for at in range(how_many - how_many_negated):
            number = self.source.choice(self.bases)
            if self.is_recursive and self.source.randrange(3) == 0:
                number = self.head
            parts.append((1, number, self.draw_terms(number, variables)))
        bound = sorted({term for sign, number, terms in parts for term in terms if term < 0})
        for at in range(how_many_negated):
            number = self.source.choice(self.bases)
            parts.append((-1, number, self.draw_terms(number, bound)))
        self.source.shuffle(parts)
        return parts

    def draw_head_terms(self):
        bound = sorted({term for sign, number, terms in self.parts if sign > 0 for term in terms if term < 0})
        return self.draw_terms(self.head, bound)

    def words(self):
        found = [self.head, *self.head_terms]
        for sign, number, terms in self.parts:
            found += [sign * (number + 1), *terms]
        return found

    def ways(self):
        """For each way to give all variables values, the head's values and the parts that are to hold."""
        variables = sorted({term for sign, number, terms in self.parts for term in terms if term < 0})
        for values in itertools.product(self.values, repeat=len(variables)):
            way = dict(zip(variables, values))

            def put_in(terms):
                return tuple(way.get(term, term) for term in terms)

            if not any(sign < 0 and (number, put_in(terms)) in self.heights for sign, number, terms in self.parts):
                yield put_in(self.head_terms), [
                    (number, put_in(terms)) for sign, number, terms in self.parts if sign > 0]

    def settled(self):
        """The heights of all facts that hold once the rule is there."""
        heights = dict(self.heights)
        possible = [(row, parts) for row, parts in self.ways()
                    if all(part in heights or part[0] == self.head for part in parts)]
        is_changed = True
        while is_changed:
            is_changed = False
            for row, parts in possible:
                if all(part in heights for part in parts):
                    tall = 1 + max((heights[part] for part in parts), default=0)
                    if tall < heights.get((self.head, row), tall + 1):
                        heights[(self.head, row)] = tall
                        is_changed = True
        return heights


class DrawnRulesTest(unittest.TestCase):
    def compare(self, seed):
        drawn = Drawn(seed)
        words = drawn.words()
        heights = drawn.settled()
        if len(words) > 45 or len(heights) > 400:
            return
        rows = sorted(row for number, row in heights if number == drawn.head)
        asked = [(rule(*words), MOST_HEIGHT + len(drawn.bases)), (count(drawn.head), len(rows))]
        for row in itertools.product(drawn.values, repeat=drawn.arities[-1]):
            asked.append((height(drawn.head, *row), heights.get((drawn.head, row), -6)))
        asked.append((following(drawn.head, 1), [*rows[0], 0, 0, 0, 0][:4] if rows else 0))
        answered = ask(drawn.calls + [call for call, due in asked])[len(drawn.calls):]
        for (call, due), found in zip(asked, answered):
            self.assertEqual(found, due, (seed, words, call))

    def test_as_it_is(self):
        for seed in range(1000):
            self.compare(seed)

    def test_where_walks_are_given_up(self):
        for most in (0, 20):
            with mock.patch.object(walks, "MOST_STEPS", most):
                for seed in range(2000, 2500):
                    self.compare(seed)

    def test_where_variables_are_bound_one_by_one(self):
        with mock.patch.object(walks, "MOST_STEPS", 0), mock.patch.object(searches, "FEW_ROWS", 0):
            for seed in range(4000, 5000):
                self.compare(seed)

    def test_where_few_dead_ends_are_kept_in_mind(self):
        for most in (1, 4):
            with mock.patch.object(walks, "MOST_STEPS", 0), mock.patch.object(searches, "MOST_NOTED", most):
                for seed in range(6000, 6300):
                    self.compare(seed)


if __name__ == "__main__":
    unittest.main()
