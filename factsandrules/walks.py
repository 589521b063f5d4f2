"""Walks: all ways in which a rule can be met are gone through, one by one, where they are few enough."""

from factsandrules.ways import Ways

# A walk of more steps is given up.
MOST_STEPS = 5000


class Walk(Ways):
    """The lowest height of each head that was found so far, and how many steps were taken.

    No fact of the head's relation holds yet while a walk is taken.
    """

    def __init__(self, shape, tables, heights):
        Ways.__init__(self, shape, tables, heights)
        self.lowest = {}
        self.steps = 0

    def find_heights(self):
        """Pairs of a head's values and its height; None where that takes too many steps."""
        rest = self.first_rest()
        if rest is not None:
            self.walk_on(0, rest)
        return list(self.lowest.items()) if self.steps <= MOST_STEPS else None

    def walk_on(self, bound, rest):
        if not rest:
            self.take_height()
            return
        at, rows = min(rest, key=lambda pair: len(pair[1]))
        access = self.shape.access_of(at, bound)
        others = [pair for pair in rest if pair[0] != at]
        for row in rows:
            self.steps += 1
            if self.steps > MOST_STEPS:
                return
            self.bind(access, row)
            if not any([self.is_held(pattern) for pattern in self.shape.ready_checks(bound, access.added)]):
                self.walk_on(bound | access.added, self.further_rest(bound, access.added, others))

    def take_height(self):
        """Of no parts at all the highest counts as 0."""
        parts = self.shape.parts
        height = 1 + max([self.heights[part.relation][self.fill(part.cells)] for part in parts], default=0)
        values = self.fill(self.shape.head.cells)
        if height < self.lowest.get(values, height + 1):
            self.lowest[values] = height
