"""A table: the facts of one relation, each with its height, to be found by their values at some positions."""


def file_fact(index, positions, values):
    key = tuple([values[at] for at in positions])
    index.setdefault(key, []).append(values)


class Table:
    """The height of each fact; an index for each row of positions that was ever asked for."""

    def __init__(self, heights):
        self.heights = heights
        self.indexes = {}

    def add(self, values, height):
        self.heights[values] = height
        for positions in list(self.indexes):
            file_fact(self.indexes[positions], positions, values)

    def matches(self, positions, key):
        """The facts that have the key's values at the positions."""
        if positions not in self.indexes:
            self.make_index(positions)
        return self.indexes[positions].get(key, [])

    def make_index(self, positions):
        index = {}
        for values in self.heights:
            file_fact(index, positions, values)
        self.indexes[positions] = index
