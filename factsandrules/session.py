"""The object that a line of calls is about: its relations, its rules, the facts it was told, and what holds."""

from factsandrules.rules import is_safe, is_value, may_join, read_rule
from factsandrules.settling import components_of, settle_changed

NOT_TAKEN = -1
NOT_SAFE = -2
NO_ROOM = -3
NO_LEVELS = -4
TOO_MANY_HOLD = -5
NOT_HELD = -6

HIGHEST_ARITY = 4
MOST_RELATIONS = 32
MOST_RULES = 64
MOST_FACTS = 4096
MOST_HELD = 32768


class Session:
    """The relations' arities; for each relation the facts told; the rules by their numbers.

    The heights are those of the facts that hold, for each relation, once what draws from the changed relations is
    settled anew. The components are None where relations or rules came or went since they were made.
    """

    def __init__(self):
        self.arities = []
        self.told = []
        self.rules = {}
        self.heights = []
        self.changed = {}
        self.components = None

    def add_relation(self, arity):
        if not 0 <= arity <= HIGHEST_ARITY:
            return NOT_TAKEN
        if len(self.arities) >= MOST_RELATIONS:
            return NO_ROOM
        self.arities.append(arity)
        self.told.append({})
        self.heights.append({})
        self.components = None
        return len(self.arities) - 1

    def add_rule(self, words):
        rule = read_rule(self.arities, words)
        if rule is None:
            return NOT_TAKEN
        if not is_safe(rule):
            return NOT_SAFE
        if not may_join(rule, list(self.rules.values())):
            return NO_LEVELS
        if len(self.rules) >= MOST_RULES:
            return NO_ROOM
        number = self.lowest_free_number()
        self.rules[number] = rule
        self.note_rule_change(rule)
        return number

    def note_rule_change(self, rule):
        self.components = None
        self.changed[rule.head[0]] = True

    def lowest_free_number(self):
        number = 0
        while number in self.rules:
            number += 1
        return number

    def forget_rule(self, number):
        if number not in self.rules:
            return NOT_TAKEN
        self.note_rule_change(self.rules.pop(number))
        return 0

    def change_fact(self, relation, there, terms):
        values = self.read_values(relation, terms)
        if values is None:
            return NOT_TAKEN
        is_told = values in self.told[relation]
        if there == 0:
            if not is_told:
                return 0
            self.told[relation].pop(values)
            self.changed[relation] = True
            return 1
        if is_told:
            return 0
        if self.count_told() >= MOST_FACTS:
            return NO_ROOM
        self.told[relation][values] = True
        self.changed[relation] = True
        return 1

    def has_relation(self, relation):
        return 0 <= relation < len(self.arities)

    def read_values(self, relation, terms):
        """The terms within the relation's arity; None where they or the relation won't do."""
        if not self.has_relation(relation):
            return None
        values = tuple(terms[:self.arities[relation]])
        if not all([is_value(term) for term in values]):
            return None
        return values

    def count_told(self):
        return sum([len(facts) for facts in self.told])

    def settle(self):
        if not self.changed:
            return
        if self.components is None:
            self.components = components_of(len(self.arities), list(self.rules.values()))
        settle_changed(self.components, self.changed, self.told, self.heights)
        self.changed = {}

    def heights_in(self, relation):
        """The facts of the relation that hold, each with its height; None where too many hold in all."""
        self.settle()
        if sum([len(held) for held in self.heights]) > MOST_HELD:
            return None
        return self.heights[relation]

    def tell_holds(self, relation, terms):
        height = self.tell_height(relation, terms)
        if height == NOT_HELD:
            return 0
        return 1 if height >= 0 else height

    def tell_count(self, relation):
        if not self.has_relation(relation):
            return NOT_TAKEN
        heights = self.heights_in(relation)
        return TOO_MANY_HOLD if heights is None else len(heights)

    def tell_following(self, relation, first, terms):
        """A list: 1 and the four numbers of the first fact, or of the first one behind the terms; else one number."""
        if not self.has_relation(relation):
            return [NOT_TAKEN]
        heights = self.heights_in(relation)
        if heights is None:
            return [TOO_MANY_HOLD]
        arity = self.arities[relation]
        ahead = tuple(terms[:arity])
        found = min([values for values in heights if first != 0 or values > ahead], default=None)
        if found is None:
            return [0]
        return [1] + list(found) + [0] * (HIGHEST_ARITY - arity)

    def tell_height(self, relation, terms):
        values = self.read_values(relation, terms)
        if values is None:
            return NOT_TAKEN
        heights = self.heights_in(relation)
        if heights is None:
            return TOO_MANY_HOLD
        return heights.get(values, NOT_HELD)
