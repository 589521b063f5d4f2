"""Rules: how they are read from their words, and when they may be taken.

The head of a rule and each of its parts is a pair: a relation's number and a tuple of terms.
"""

MOST_WORDS = 45
MOST_PARTS = 8
LOWEST_VARIABLE = -8
HIGHEST_VALUE = 65535


class Rule:
    """A head, the parts that must hold, and the negated parts, which must not; its shape, once that is asked for."""

    def __init__(self, head, parts, negated):
        self.head = head
        self.parts = parts
        self.negated = negated
        self.shape = None


def is_value(number):
    return 0 <= number <= HIGHEST_VALUE


def is_variable(number):
    return LOWEST_VARIABLE <= number <= -1


def read_pair(arities, relation, words, start):
    """The relation with its terms, which begin at start; None where that is not to be had."""
    if not 0 <= relation < len(arities):
        return None
    terms = words[start:start + arities[relation]]
    if len(terms) < arities[relation]:
        return None
    if not all([is_value(term) or is_variable(term) for term in terms]):
        return None
    return (relation, tuple(terms))


def read_rule(arities, words):
    """The rule that the words tell of relations with these arities; None where they tell none."""
    if not 1 <= len(words) <= MOST_WORDS:
        return None
    head = read_pair(arities, words[0], words, 1)
    if head is None:
        return None
    rule = Rule(head, [], [])
    how_many = 0
    at = 1 + len(head[1])
    while at < len(words):
        # A part's number 0 stands for relation -1 here, which is never there.
        part = read_pair(arities, abs(words[at]) - 1, words, at + 1)
        if part is None:
            return None
        # A part that stands again is counted, but asks nothing more.
        alike = rule.negated if words[at] < 0 else rule.parts
        if part not in alike:
            alike.append(part)
        how_many += 1
        at += 1 + len(part[1])
    if how_many > MOST_PARTS:
        return None
    return rule


def variables_of(pairs):
    """The variables of the pairs, as the keys of a dict."""
    found = {}
    for relation, terms in pairs:
        for term in terms:
            if is_variable(term):
                found[term] = True
    return found


def is_safe(rule):
    bound = variables_of(rule.parts)
    return all([variable in bound for variable in variables_of([rule.head] + rule.negated)])


def steps_of(rules):
    """For each relation of a part, the heads it leads to, each with True where the part is negated."""
    steps = {}
    for rule in rules:
        for relation, terms in rule.parts:
            steps.setdefault(relation, []).append((rule.head[0], False))
        for relation, terms in rule.negated:
            steps.setdefault(relation, []).append((rule.head[0], True))
    return steps


def may_join(rule, rules):
    """Whether the rule has levels together with the rules, which have levels by themselves."""
    # Levels fail just where a circle of steps holds a negated one. The rules by themselves
    # make no such circle, so any that is there leads from the new rule's head back to it.
    steps = steps_of(rules + [rule])
    head = rule.head[0]
    reached = {}
    waiting = [(head, False)]
    while waiting:
        place = waiting.pop()
        for step in steps.get(place[0], []):
            following = (step[0], place[1] or step[1])
            if following not in reached:
                reached[following] = True
                waiting.append(following)
    return (head, True) not in reached
