"""Ways: values for a rule's variables, bound step by step, where each part is met by the rows of one table."""


class Ways:
    """The rule's shape; a table for each part; the heights of the facts that hold, by relation; the cells' values."""

    def __init__(self, shape, tables, heights):
        self.shape = shape
        self.tables = tables
        self.heights = heights
        self.cells = list(shape.cells)

    def fill(self, cells):
        return tuple([self.cells[cell] for cell in cells])

    def bind(self, access, row):
        for cell, value in zip(access.targets, row):
            self.cells[cell] = value

    def is_held(self, pattern):
        return self.fill(pattern.cells) in self.heights[pattern.relation]

    def rows_of(self, at, access):
        return self.tables[at].matches(access.look, self.fill(access.key))

    def first_rest(self):
        """The parts that have variables, each a number and its rows; None where no values meet the rule at all."""
        shape = self.shape
        if any([self.is_held(pattern) for pattern in [shape.head] + shape.negated if pattern.group == 0]):
            return None
        rest = [(at, self.rows_of(at, shape.access_of(at, 0))) for at in range(len(shape.parts))]
        if not all([rows for at, rows in rest]):
            return None
        return [pair for pair in rest if shape.parts[pair[0]].group]

    def further_rest(self, bound, added, others):
        """Those of the others that are still to be met once the added group is bound too, each a number and its rows.

        Where one has no rows any more, it stands alone.
        """
        now = bound | added
        rest = []
        for pair in others:
            group = self.shape.parts[pair[0]].group
            if group & added:
                pair = (pair[0], self.rows_of(pair[0], self.shape.access_of(pair[0], now)))
                if not pair[1]:
                    return [pair]
            if group & ~now:
                rest.append(pair)
        return rest
