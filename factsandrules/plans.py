"""Plans: in which steps the values for a rule's variables are found.

A binding is a tuple of values, one for each variable that is bound so far and still needed. Variables are let go of
as soon as nothing asks for them, and parts that share no variable are joined apart from one another: else a rule of
eight parts over a few facts could have more bindings than can ever be gone through.
"""

from factsandrules.rules import is_value, variables_of

# The relation that the plan's one fresh part has: the fresh facts stand behind all relations' tables.
FRESH = -1


class Step:
    """How one part is met. Places count through a binding, the constants, and, in a join, a fact's values.

    The fact is sought by its values at the positions, which are those at the places of key; it must have the same
    value at each pair of same; the places of keep make the new binding.
    """

    def __init__(self, source, negated, constants, positions, key, same, keep):
        self.source = source
        self.negated = negated
        self.constants = constants
        self.positions = positions
        self.key = key
        self.same = same
        self.keep = keep


class Plan:
    """The steps of each group of parts, the steps that bring the groups together, and how the head is made."""

    def __init__(self, groups, closing, head_constants, head_places):
        self.groups = groups
        self.closing = closing
        self.head_constants = head_constants
        self.head_places = head_places


class Draft:
    """Steps in the making, and the variables that are bound behind them, in order."""

    def __init__(self, bound):
        self.bound = bound
        self.steps = []

    def add_join(self, source, terms, needed):
        constants = constants_of(terms)
        shift = len(self.bound) + len(constants)
        positions = [at for at, term in enumerate(terms) if is_value(term) or term in self.bound]
        key = [place_of(terms[at], self.bound, constants) for at in positions]
        first_at = {}
        same = []
        for at, term in enumerate(terms):
            if at not in positions and term in first_at:
                same.append((first_at[term], at))
            elif at not in positions:
                first_at[term] = at
        old = [variable for variable in self.bound if variable in needed]
        added = [variable for variable in first_at if variable in needed]
        keep = [self.bound.index(variable) for variable in old] + [shift + first_at[variable] for variable in added]
        self.steps.append(Step(source, False, constants, tuple(positions), key, same, keep))
        self.bound = old + added

    def add_check(self, part, needed):
        terms = part[1]
        constants = constants_of(terms)
        key = [place_of(term, self.bound, constants) for term in terms]
        old = [variable for variable in self.bound if variable in needed]
        keep = [self.bound.index(variable) for variable in old]
        self.steps.append(Step(part[0], True, constants, tuple(range(len(terms))), key, [], keep))
        self.bound = old

    def add_ready_checks(self, waiting, others):
        """Checks each waiting negated part whose variables are bound, and takes it from the waiting ones."""
        for part in list(waiting):
            if all([variable in self.bound for variable in variables_of([part])]):
                waiting.remove(part)
                self.add_check(part, variables_of(others + waiting))


def constants_of(terms):
    return tuple([term for term in terms if is_value(term)])


def place_of(term, bound, constants):
    if is_value(term):
        return len(bound) + constants.index(term)
    return bound.index(term)


def shares_variable(part, parts):
    others = variables_of(parts)
    return any([variable in others for variable in variables_of([part])])


def groups_of(parts):
    """The parts in groups that share no variable; the one with the fresh part first, then the smaller ones."""
    groups = []
    for part in parts:
        joined = [part]
        apart = []
        for group in groups:
            if shares_variable(part, group):
                joined = group + joined
            else:
                apart.append(group)
        groups = apart + [joined]
    return sorted(groups, key=lambda group: (not has_fresh(group), len(variables_of(group))))


def has_fresh(group):
    return any([part[0] == FRESH for part in group])


def cost_of(part, rest, bound, wanted):
    """What the part would cost as the next one: the lowest is taken, so that few variables are bound at a time."""
    own = variables_of([part])
    unbound = [variable for variable in own if variable not in bound]
    others = list(rest)
    others.remove(part)
    needed = variables_of(wanted + others)
    left = [variable for variable in bound + unbound if variable in needed]
    is_apart = len(unbound) == len(own)
    return (part[0] != FRESH, len(unbound) > 0, is_apart, len(left), len(unbound))


def draft_group(group, head, waiting):
    """The steps of one group, with the negated parts that it binds, which are taken from the waiting ones."""
    draft = Draft([])
    rest = list(group)
    draft.add_ready_checks(waiting, [head] + rest)
    while rest:
        costs = [cost_of(part, rest, draft.bound, [head] + waiting) for part in rest]
        part = rest.pop(costs.index(min(costs)))
        draft.add_join(part[0], part[1], variables_of([head] + rest + waiting))
        draft.add_ready_checks(waiting, [head] + rest)
    return draft


def draft_closing(drafts, head, waiting):
    """The steps from the first group's bindings to those of all groups; a join's source is a group's number."""
    draft = Draft(drafts[0].bound if drafts else [])
    draft.add_ready_checks(waiting, [head])
    for at in range(1, len(drafts)):
        draft.add_join(at, drafts[at].bound, variables_of([head] + waiting))
        draft.add_ready_checks(waiting, [head])
    return draft


def make_plan(rule, fresh_at):
    """The plan for the rule where its part of this number is met by fresh facts alone; None for no such part."""
    parts = list(rule.parts)
    if fresh_at is not None:
        parts[fresh_at] = (FRESH, parts[fresh_at][1])
    waiting = list(rule.negated)
    drafts = []
    for group in groups_of(parts):
        drafts.append(draft_group(group, rule.head, waiting))
    closing = draft_closing(drafts, rule.head, waiting)
    terms = rule.head[1]
    constants = constants_of(terms)
    places = [place_of(term, closing.bound, constants) for term in terms]
    return Plan([draft.steps for draft in drafts], closing.steps, constants, places)


def plan_for(rule, fresh_at):
    if fresh_at not in rule.plans:
        rule.plans[fresh_at] = make_plan(rule, fresh_at)
    return rule.plans[fresh_at]
