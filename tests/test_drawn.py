"""The whole: drawn lists of calls, against a plain reading of the document that is written apart from the program."""

import random
import unittest

from factsandrules.desk import answers
from helper import HIGHEST, LOWEST, ask, count, fact, following, forget, height, holds, new, relation, rule

MOST_HELD = 400

# More ways than this for one rule are left to other tests: the plain reading goes through them one by one.
MOST_WAYS = 4000


class TooMany(Exception):
    """More facts hold than may hold behind any call of a list, or a rule has more ways than can be gone through."""


def is_number_of_value(term):
    return term in range(65536)


class Plain:
    """The object as the document tells it: what holds is found anew, from the told facts, by trying all facts."""

    def __init__(self):
        self.start()

    def start(self):
        self.arities = []
        self.told = set()
        self.rules = {}
        self.known = {}

    def answer(self, call):
        """What the call answers; TooMany, with nothing changed, where too many facts would hold behind it."""
        before = (list(self.arities), set(self.told), dict(self.rules), self.known)
        answered = getattr(self, "call_" + str(call[0]))(*call[1:])
        if before != (self.arities, self.told, self.rules, self.known):
            try:
                self.known = self.what_holds()
            except TooMany:
                self.arities, self.told, self.rules, self.known = before
                raise
        return answered

    def call_1(self):
        self.start()
        return 0

    def call_2(self, arity):
        if arity not in range(5):
            return -1
        if len(self.arities) == 32:
            return -3
        self.arities.append(arity)
        return len(self.arities) - 1

    def call_3(self, how_many, *words):
        parsed = self.parse(list(words))
        if parsed is None:
            return -1
        head, body = parsed
        bound = {term for sign, number, terms in body if sign > 0 for term in terms}
        asked = [term for sign, number, terms in [(-1, *head)] + body if sign < 0 for term in terms]
        if any(term < 0 and term not in bound for term in asked):
            return -2
        if self.levels([*self.rules.values(), parsed]) is None:
            return -4
        if len(self.rules) == 64:
            return -3
        number = min(set(range(65)) - set(self.rules))
        self.rules[number] = parsed
        return number

    def call_4(self, number):
        if number not in self.rules:
            return -1
        del self.rules[number]
        return 0

    def call_5(self, number, there, four, *terms):
        told = self.whole(number, terms)
        if told is None:
            return -1
        before = set(self.told)
        if there != 0:
            self.told.add(told)
        else:
            self.told.discard(told)
        return int(self.told != before)

    def call_6(self, number, four, *terms):
        asked = self.whole(number, terms)
        return -1 if asked is None else int(asked in self.known)

    def call_7(self, number):
        if number not in range(len(self.arities)):
            return -1
        return len([known for known in self.known if known[0] == number])

    def call_8(self, number, first, four, *terms):
        if number not in range(len(self.arities)):
            return -1
        arity = self.arities[number]
        rows = sorted(list(values) for other, values in self.known if other == number)
        if first == 0:
            rows = [row for row in rows if row > list(terms[:arity])]
        return rows[0] + [0] * (4 - arity) if rows else 0

    def call_9(self, number, four, *terms):
        asked = self.whole(number, terms)
        return -1 if asked is None else self.known.get(asked, -6)

    def whole(self, number, terms):
        if number not in range(len(self.arities)):
            return None
        values = terms[:self.arities[number]]
        return (number, values) if all(map(is_number_of_value, values)) else None

    def parse(self, words):
        """The head, a relation and terms, and the body, of a sign, a relation and terms each; or None."""
        rows = []
        if len(words) not in range(1, 46):
            return None
        while words:
            word = words.pop(0)
            number = abs(word) - 1 if rows else word
            if number not in range(len(self.arities)) or len(words) < self.arities[number]:
                return None
            terms = tuple(words.pop(0) for at in range(self.arities[number]))
            if any(term not in range(-8, 65536) for term in terms):
                return None
            rows.append((word, number, terms))
        if len(rows) > 9:
            return None
        return rows[0][1:], rows[1:]

    def levels(self, rules):
        """A level for each relation, raised until all rules are content; None where that doesn't end."""
        levels = [0] * len(self.arities)
        for turn in range(len(self.arities) + 1):
            raised = list(levels)
            for (head, head_terms), body in rules:
                for sign, number, terms in body:
                    raised[head] = max(raised[head], raised[number] + (1 if sign < 0 else 0))
            if raised == levels:
                return levels
            levels = raised
        return None

    def what_holds(self):
        """Each fact that holds, with its height."""
        facts = set(self.told)
        rules = list(self.rules.values())
        levels = self.levels(rules)
        for level in range(len(self.arities) + 1):
            here = [rule for rule in rules if levels[rule[0][0]] == level]
            while True:
                heads = {head for rule in here for head in heads_by(rule, facts, facts)}
                if len(facts | heads) > MOST_HELD:
                    raise TooMany()
                if heads <= facts:
                    break
                facts |= heads
        heights = {told: 0 for told in self.told}
        tall = 0
        while len(heights) < len(facts):
            tall += 1
            heads = {head for rule in rules for head in heads_by(rule, set(heights), facts)}
            for head in heads - set(heights):
                heights[head] = tall
        return heights


def heads_by(rule, facts, settled):
    """What the rule makes hold, where its parts are sought among the facts, negated ones among the settled ones."""
    (head, head_terms), body = rule
    ways = [{}]
    for sign, number, terms in body:
        if sign > 0:
            rows = [values for other, values in facts if other == number]
            ways = [wider for way in ways for values in rows for wider in fitted(way, terms, values)]
        if len(ways) > MOST_WAYS:
            raise TooMany()
    found = set()
    for way in ways:
        negated = [(number, put_in(terms, way)) for sign, number, terms in body if sign < 0]
        if not any(part in settled for part in negated):
            found.add((head, put_in(head_terms, way)))
    return found


def fitted(way, terms, values):
    """The way with the variables that the values give; a list of none or one."""
    for term, value in zip(terms, values):
        if way.get(term, term if term >= 0 else value) != value:
            return []
    wider = dict(way)
    for term, value in zip(terms, values):
        if term < 0 and wider.setdefault(term, value) != value:
            return []
    return [wider]


def put_in(terms, way):
    return tuple(way[term] if term < 0 else term for term in terms)


class Drawing:
    """Draws calls. How many values, relations and parts there are, and how often parts are negated, is drawn ahead.

    The relations of low numbers are told more often, those of high numbers are more often a rule's head.
    """

    def __init__(self, seed):
        self.source = random.Random(seed)
        self.plain = Plain()
        self.values = self.source.choice([(0, 1), (5, 6, 7), (0, 65535, 9, 256, 65534), range(12), range(300, 330)])
        self.variables = self.source.choice([(-1, -2), (-1, -2, -3), (-8, -1), tuple(range(-8, 0))])
        self.most_parts = self.source.choice([1, 2, 2, 3, 3, 4])
        self.arities = self.source.choice([(0, 1, 2), (1, 2), (2,), (1, 2, 2, 3), (0, 1, 2, 3, 4)])
        self.most_relations = self.source.choice([2, 4, 6, 10])
        self.negated_in = self.source.choice([2, 3, 6])
        self.most_told = self.source.choice([20, 40, 80])

    def one_in(self, how_many):
        return self.source.randrange(how_many) == 0

    def odd_number(self):
        return self.source.choice([LOWEST, HIGHEST, -1, -2, -9, 32, 33, 64, 65535, 65536, self.source.randrange(-9, 40)])

    def draw_relation(self):
        if not self.plain.arities or self.one_in(60):
            return self.odd_number()
        return self.source.randrange(len(self.plain.arities))

    def low_relation(self):
        return min(self.draw_relation(), self.draw_relation())

    def high_relation(self):
        how_many = len(self.plain.arities)
        return max(self.source.randrange(how_many), self.source.randrange(how_many))

    def draw_value(self):
        return self.odd_number() if self.one_in(80) else self.source.choice(self.values)

    def draw_terms(self, number):
        """Terms of any sort, or those of a fact of the relation that holds, with anything past the arity."""
        terms = [self.draw_value() for at in range(4)]
        known = sorted(values for other, values in self.plain.known if other == number)
        if known and self.one_in(2):
            values = self.source.choice(known)
            terms[:len(values)] = values
        if known and self.one_in(3):
            arity = self.plain.arities[number]
            terms[arity:] = [self.odd_number() for at in range(arity, 4)]
        return terms

    def told_terms(self, number):
        """As above, or a value and the ones behind it, for long chains."""
        if self.one_in(2):
            return self.draw_terms(number)
        first = self.source.randrange(len(self.values))
        return [self.values[(first + at) % len(self.values)] for at in range(4)]

    def draw_term(self, variables):
        if variables and not self.one_in(8):
            return self.source.choice(variables)
        return self.draw_value()

    def drawn_from(self, head):
        """A relation for a part: the head's own, one that has facts, or any."""
        if self.one_in(4):
            return head
        if self.plain.known and not self.one_in(4):
            return self.source.choice(sorted(self.plain.known))[0]
        return self.source.randrange(len(self.plain.arities))

    def draw_parts(self, head):
        """Parts that aren't negated, with any terms, or such that each begins with what the one ahead ends with."""
        is_linked = not self.one_in(3)
        parts = []
        last = self.source.choice(self.variables)
        for at in range(self.source.randint(0, self.most_parts)):
            number = self.drawn_from(head)
            terms = [self.draw_term(self.variables) for at in range(self.plain.arities[number])]
            if is_linked and terms:
                terms[0] = last
                last = terms[-1]
            parts.append([number + 1, *terms])
        self.source.shuffle(parts)
        return parts

    def draw_words(self):
        arities = self.plain.arities
        head = self.high_relation()
        parts = self.draw_parts(head)
        bound = [term for part in parts for term in part[1:] if term < 0]
        for at in range(self.source.randint(1, 2) if self.one_in(self.negated_in) else 0):
            number = self.source.randrange(len(arities))
            part = [-number - 1, *[self.draw_term(bound) for at in range(arities[number])]]
            parts.insert(self.source.randint(0, len(parts)), part)
        # A variable that stands once is an end of the chain, which makes for higher proofs than one in its midst.
        ends = sorted(term for term in set(bound) if bound.count(term) == 1)
        if ends and self.one_in(2):
            bound = ends
        if self.one_in(20):
            bound = self.variables
        words = [head, *[self.draw_term(bound) for at in range(arities[head])]]
        for part in parts:
            words += part
        if self.one_in(25):
            words[self.source.randrange(len(words))] = self.odd_number()
        if self.one_in(40):
            words = words[:-1]
        return words[:45]

    def draw_change(self):
        kind = self.source.randrange(12)
        if len(self.plain.arities) < self.most_relations and (not self.plain.arities or kind <= 3):
            return relation(self.source.choice(self.arities))
        if kind == 0:
            return relation(self.odd_number())
        if kind <= 3:
            return rule(*self.draw_words())
        if kind == 4:
            numbers = sorted(self.plain.rules)
            return forget(self.source.choice(numbers) if numbers and not self.one_in(6) else self.odd_number())
        number = self.low_relation()
        is_full = len(self.plain.told) >= self.most_told
        there = 0 if self.one_in(2 if is_full else 5) else self.source.choice([1, 1, -1, self.odd_number()])
        return fact(number, there, *self.told_terms(number))

    def draw_question(self):
        number = self.draw_relation()
        kind = self.source.randrange(5)
        if kind == 0:
            return holds(number, *self.draw_terms(number))
        if kind == 1:
            return count(number)
        if kind == 2:
            first = self.source.choice([0, 0, 0, 1, self.odd_number()])
            return following(number, first, *self.draw_terms(number))
        return height(number, *self.draw_terms(number))

    def draw_call(self):
        if self.one_in(300):
            return new()
        return self.draw_question() if self.one_in(2) else self.draw_change()

    def draw_first_calls(self):
        """Relations and facts, so that the rules that are drawn behind them have something to go by."""
        calls = [new()]
        calls += [relation(self.source.choice(self.arities)) for at in range(self.most_relations)]
        for at in range(self.source.choice([0, 10, 30])):
            number = self.source.randrange(self.most_relations)
            first = self.source.randrange(len(self.values))
            calls.append(fact(number, 1, *[self.values[(first + at) % len(self.values)] for at in range(4)]))
        return calls

    def draw_list(self, how_many):
        """Calls, and what each of them answers by the plain reading."""
        calls = self.draw_first_calls()
        expected = [self.plain.answer(call) for call in calls]
        while len(calls) < how_many:
            call = self.draw_call()
            try:
                expected.append(self.plain.answer(call))
            except TooMany:
                continue
            calls.append(call)
        return calls, expected


def whole_look(plain):
    """Questions that show all that holds: of each relation how many, each fact and its height."""
    calls = []
    for number, arity in enumerate(plain.arities):
        calls += [count(number), following(number, 1)]
        for other, values in sorted(plain.known):
            if other == number:
                calls += [following(number, 0, *values), height(number, *values)]
    return calls


# Relations of a drawn graph: edge, start and node are told; path, reached, apart, far, lonely and done follow.
GRAPH_ARITIES = (2, 1, 1, 2, 1, 1, 2, 1, 0)
EDGE, START, NODE, PATH, REACHED, APART, FAR, LONELY, DONE = range(9)
GRAPH_RULES = (
    (PATH, -1, -2, EDGE + 1, -1, -2),
    (PATH, -1, -3, EDGE + 1, -1, -2, PATH + 1, -2, -3),
    (PATH, -1, -3, PATH + 1, -1, -2, PATH + 1, -2, -3),
    (PATH, -2, -1, PATH + 1, -1, -2, EDGE + 1, -2, -2),
    (REACHED, -1, START + 1, -1),
    (REACHED, -2, REACHED + 1, -1, EDGE + 1, -1, -2),
    (REACHED, 3, REACHED + 1, 4, REACHED + 1, 5),
    (APART, -1, NODE + 1, -1, -REACHED - 1, -1),
    (FAR, -1, -2, PATH + 1, -1, -2, -EDGE - 1, -1, -2),
    (FAR, -1, -2, APART + 1, -1, START + 1, -2),
    (FAR, -8, -7, FAR + 1, -7, -8, NODE + 1, -7, -PATH - 1, -8, -8),
    (LONELY, -1, -FAR - 1, -1, -1, NODE + 1, -1, -PATH - 1, -1, 0),
    (LONELY, -1, LONELY + 1, -2, EDGE + 1, -2, -1, -FAR - 1, -1, -2),
    (DONE, -LONELY - 1, 1, -LONELY - 1, 2),
    (DONE, LONELY + 1, -1, EDGE + 1, -1, -1),
    (NODE, 7),
)


def draw_graph_list(seed, how_many):
    """Calls on a graph whose edges and rules come and go, and what each answers; the proofs stand high here."""
    source = random.Random(seed)
    plain = Plain()
    nodes = source.choice([4, 6, 9])
    calls = [new(), *[relation(arity) for arity in GRAPH_ARITIES]]
    calls += [rule(*words) for words in source.sample(GRAPH_RULES, 12)]
    for node in range(nodes):
        calls += [fact(NODE, 1, node), fact(EDGE, 1, node, (node + 1) % nodes)]
    expected = [plain.answer(call) for call in calls]
    while len(calls) < how_many:
        kind = source.randrange(12)
        known = sorted(plain.known)
        number, values = source.choice(known) if known else (PATH, (0, 0))
        call = [
            rule(*source.choice(GRAPH_RULES)), forget(source.randrange(len(plain.rules) + 1)),
            fact(source.choice([START, NODE, PATH]), source.randrange(2), source.randrange(nodes), source.randrange(nodes)),
            *[fact(EDGE, source.randrange(2), source.randrange(nodes), source.randrange(nodes))] * 3,
            height(number, *values), height(number, *values),
            height(source.randrange(9), source.randrange(nodes), source.randrange(nodes)),
            count(source.randrange(9)), following(number, 0, *values), holds(number, *values[::-1]),
        ][kind]
        expected.append(plain.answer(call))
        calls.append(call)
    return calls, expected


class DrawnTest(unittest.TestCase):
    def compare(self, calls, expected, note):
        found = ask(calls)
        for at, call in enumerate(calls):
            if found[at] != expected[at]:
                self.fail(f"{note}, call {at}, {call}: {found[at]} is answered in the place of {expected[at]}")

    def test_many_short_lists(self):
        for seed in range(100):
            drawing = Drawing(seed)
            calls, expected = drawing.draw_list(150)
            look = whole_look(drawing.plain)
            self.compare(calls + look, expected + [drawing.plain.answer(call) for call in look], f"seed {seed}")

    def test_long_lists(self):
        for seed in range(1000, 1008):
            calls, expected = Drawing(seed).draw_list(1000)
            self.compare(calls, expected, f"seed {seed}")

    def test_a_list_is_left_as_it_was_and_answered_the_same_again(self):
        for seed in range(20):
            calls = [number for call in Drawing(seed).draw_list(100)[0] for number in call]
            handed_in = list(calls)
            first = answers(handed_in)
            self.assertEqual(handed_in, calls)
            self.assertEqual(answers(handed_in), first)
            self.assertEqual(handed_in, calls)

    def test_lists_on_a_graph(self):
        for seed in range(2000, 2040):
            calls, expected = draw_graph_list(seed, 150)
            self.compare(calls, expected, f"seed {seed}")

    def test_a_long_list_on_a_graph(self):
        calls, expected = draw_graph_list(3000, 1000)
        self.compare(calls, expected, "seed 3000")


if __name__ == "__main__":
    unittest.main()
