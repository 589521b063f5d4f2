"""The object that a line of calls is about: its relations, its rules and the facts it was told."""

from factsandrules.rules import is_safe, is_value, may_join, read_rule

NOT_TAKEN = -1
NOT_SAFE = -2
NO_ROOM = -3
NO_LEVELS = -4

HIGHEST_ARITY = 4
MOST_RELATIONS = 32
MOST_RULES = 64
MOST_FACTS = 4096


class Session:
    """The relations' arities; for each relation the facts told; the rules by their numbers."""

    def __init__(self):
        self.arities = []
        self.told = []
        self.rules = {}

    def add_relation(self, arity):
        if not 0 <= arity <= HIGHEST_ARITY:
            return NOT_TAKEN
        if len(self.arities) >= MOST_RELATIONS:
            return NO_ROOM
        self.arities.append(arity)
        self.told.append({})
        return len(self.arities) - 1

    def add_rule(self, words):
        rule = read_rule(self.arities, words)
        if rule is None:
            return NOT_TAKEN
        if not is_safe(rule):
            return NOT_SAFE
        if not may_join(rule, list(self.rules.values())):
            return NO_LEVELS
        if len(self.rules) >= MOST_RULES:
            return NO_ROOM
        number = self.lowest_free_number()
        self.rules[number] = rule
        return number

    def lowest_free_number(self):
        number = 0
        while number in self.rules:
            number += 1
        return number

    def forget_rule(self, number):
        if number not in self.rules:
            return NOT_TAKEN
        self.rules.pop(number)
        return 0

    def change_fact(self, relation, there, terms):
        values = self.read_values(relation, terms)
        if values is None:
            return NOT_TAKEN
        is_told = values in self.told[relation]
        if there == 0:
            if not is_told:
                return 0
            self.told[relation].pop(values)
            return 1
        if is_told:
            return 0
        if self.count_told() >= MOST_FACTS:
            return NO_ROOM
        self.told[relation][values] = True
        return 1

    def read_values(self, relation, terms):
        """The terms within the relation's arity; None where they or the relation won't do."""
        if not 0 <= relation < len(self.arities):
            return None
        values = tuple(terms[:self.arities[relation]])
        if not all([is_value(term) for term in values]):
            return None
        return values

    def count_told(self):
        return sum([len(facts) for facts in self.told])
