"""Shapes: a rule with its terms as cells, made ready for a search.

A cell is a place in a list of values: the first ones are the variables', those behind them hold the rule's constants.
A group of variables is a number, with the bit of each variable's cell.
"""

from factsandrules.rules import LOWEST_VARIABLE, is_variable

HOW_MANY_VARIABLES = -LOWEST_VARIABLE


class Pattern:
    """The head or a part: its relation, a cell for each of its terms, and the group of the variables among these."""

    def __init__(self, relation, cells):
        self.relation = relation
        self.cells = cells
        self.group = group_of(cells)


class Access:
    """How rows for a part are found while some variables are bound: by a look, and a key of the values in its cells.

    The rows bind the added group; the targets are the cells where a row's values go.
    """

    def __init__(self, look, key, targets):
        self.look = look
        self.key = key
        self.added = group_of(targets)
        self.targets = targets


class Shape:
    """The cells as they are ahead of a search; the patterns of the head, the parts and the negated parts.

    What is worked out for some bound variables is kept until it is asked for again.
    """

    def __init__(self, rule):
        self.cells = [0] * HOW_MANY_VARIABLES
        self.head = self.make_pattern(rule.head)
        self.parts = [self.make_pattern(part) for part in rule.parts]
        self.negated = [self.make_pattern(part) for part in rule.negated]
        self.accesses = {}
        self.narrow_accesses = {}
        self.ready = {}
        self.weights = {}

    def make_pattern(self, pair):
        return Pattern(pair[0], [self.cell_of(term) for term in pair[1]])

    def cell_of(self, term):
        if is_variable(term):
            return -term - 1
        self.cells.append(term)
        return len(self.cells) - 1

    def access_of(self, at, bound):
        """The access that binds all the variables of the part of this number which the bound group lacks."""
        if (at, bound) not in self.accesses:
            part = self.parts[at]
            self.accesses[(at, bound)] = make_access(part.cells, bound, part.group)
        return self.accesses[(at, bound)]

    def narrow_accesses_of(self, at, bound):
        """The accesses that bind one such variable each."""
        if (at, bound) not in self.narrow_accesses:
            part = self.parts[at]
            self.narrow_accesses[(at, bound)] = [
                make_access(part.cells, bound, 1 << cell) for cell in cells_of(part.group & ~bound)]
        return self.narrow_accesses[(at, bound)]

    def ready_checks(self, bound, added):
        """The head and the negated parts whose variables are all bound once the added group is, and were not before."""
        if (bound, added) not in self.ready:
            self.ready[(bound, added)] = [
                pattern for pattern in [self.head] + self.negated if is_ready(pattern.group, bound, added)]
        return self.ready[(bound, added)]

    def weight_of(self, group):
        """How many of the head, the parts and the negated parts ask for variables of the group."""
        if group not in self.weights:
            patterns = [self.head] + self.parts + self.negated
            self.weights[group] = len([pattern for pattern in patterns if pattern.group & group])
        return self.weights[group]


def shape_of(rule):
    if rule.shape is None:
        rule.shape = Shape(rule)
    return rule.shape


def group_of(cells):
    group = 0
    for cell in cells:
        if cell < HOW_MANY_VARIABLES:
            group |= 1 << cell
    return group


def cells_of(group):
    return [cell for cell in range(HOW_MANY_VARIABLES) if group & 1 << cell]


def is_ready(group, bound, added):
    """Whether all of the group is bound once the added one is, and was not before."""
    return group & added != 0 and group & ~(bound | added) == 0


def make_access(cells, bound, wanted):
    """The access to a part of these cells that binds those of the wanted variables which the bound group lacks."""
    positions = []
    first_at = {}
    same = []
    for at, cell in enumerate(cells):
        if cell >= HOW_MANY_VARIABLES or bound & 1 << cell:
            positions.append(at)
        elif cell in first_at:
            same.append((first_at[cell], at))
        else:
            first_at[cell] = at
    targets = [cell for cell in first_at if wanted & 1 << cell]
    look = (tuple(positions), tuple(same), tuple([first_at[cell] for cell in targets]))
    return Access(look, [cells[at] for at in positions], targets)
