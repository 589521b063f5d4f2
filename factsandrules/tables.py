"""A table: rows of values, to be found by their values at some positions."""


def file_row(index, look, row):
    given, same, wanted = look
    for one, other in same:
        if row[one] != row[other]:
            return
    key = tuple([row[at] for at in given])
    index.setdefault(key, {})[tuple([row[at] for at in wanted])] = True


class Table:
    """The rows, no two alike; an index for each look that was ever asked for.

    A look is the positions where the values are given, the pairs of positions where they must be the same, and the
    positions where they are wanted.
    """

    def __init__(self, rows):
        self.rows = list(rows)
        self.indexes = {}

    def add_rows(self, rows):
        self.rows.extend(rows)
        for look in list(self.indexes):
            for row in rows:
                file_row(self.indexes[look], look, row)

    def matches(self, look, key):
        """The wanted values of the rows with the key's values where they are given; none stands twice."""
        # Where all values are wanted, that is the rows as they stand.
        if not self.rows or len(look[2]) == len(self.rows[0]):
            return self.rows
        if look not in self.indexes:
            self.make_index(look)
        return self.indexes[look].get(key, {})

    def make_index(self, look):
        index = {}
        for row in self.rows:
            file_row(index, look, row)
        self.indexes[look] = index
