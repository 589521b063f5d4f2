"""Searches: which new heads a rule gives where each of its parts is met by the rows of one table.

Variables are bound step by step, and each step goes through the rows of one part, in depth, so that no more than one
way is in hand at a time. Where a step gives no more new heads, it tells why: a group of variables whose values, as they
are, can't lead to a new head, whatever the other variables' values are. By that, the steps back to the last variable of
the group need not try their other rows; and the group's values are noted, so that they are not gone into again. A head
that was found counts as a dead end too, by the values of the head's variables: one way to it is enough.
"""

from factsandrules.shapes import cells_of, is_ready
from factsandrules.ways import Ways

# Where a part has more rows than these, its variables are looked at one by one.
FEW_ROWS = 8

# More dead ends are not kept in mind at a time.
MOST_NOTED = 200000


class Search(Ways):
    """New heads hold from when they are found, at the height that is told ahead.

    Noted are the dead ends: for each group the values. Asked are those groups that are to be asked for at each step.
    """

    def __init__(self, shape, tables, heights, height):
        Ways.__init__(self, shape, tables, heights)
        self.height = height
        self.found = []
        self.noted = {}
        self.asked = {}
        self.how_many_noted = 0

    def find_heads(self):
        """The new heads, each a tuple of values."""
        rest = self.first_rest()
        if rest is not None:
            self.meet_parts(0, rest)
        return self.found

    def meet_parts(self, bound, rest):
        """Meets the rest of the parts, each a number and its rows; gives back the group by which no more is found."""
        if not rest:
            return self.take_head()
        at, access, rows = self.choose_step(bound, rest)
        group = self.shape.parts[at].group
        others = rest
        if group & ~(bound | access.added) == 0:
            others = [pair for pair in rest if pair[0] != at]
        # Rows with other values are left out by the part's variables that are bound.
        reason = group & bound
        for row in rows:
            self.bind(access, row)
            dead_by = self.go_on(bound, access.added, others, reason)
            if dead_by & access.added == 0:
                return dead_by
            reason |= dead_by & bound
        self.note_dead_end(bound, reason)
        return reason

    def take_head(self):
        head = self.shape.head
        values = self.fill(head.cells)
        self.heights[head.relation][values] = self.height
        self.found.append(values)
        return head.group

    def choose_step(self, bound, rest):
        """A part's number, an access to it, and the rows that this gives: the fewest that are to be had."""
        at, rows = min(rest, key=lambda pair: len(pair[1]))
        best = (at, self.shape.access_of(at, bound), rows)
        if len(rows) > FEW_ROWS:
            for pair in rest:
                for access in self.shape.narrow_accesses_of(pair[0], bound):
                    step = (pair[0], access, self.rows_of(pair[0], access))
                    if self.is_better(step, best):
                        best = step
        return best

    def is_better(self, step, other):
        """Whether the step has fewer rows, for as much as its variables are asked for."""
        weight = self.shape.weight_of(step[1].added)
        return len(step[2]) * self.shape.weight_of(other[1].added) < len(other[2]) * weight

    def go_on(self, bound, added, others, reason):
        """Goes on with the added group bound too; gives back the group by which no more is found."""
        dead_by = self.known_dead_end(bound, added, reason)
        if dead_by:
            return dead_by
        now = bound | added
        rest = self.further_rest(bound, added, others)
        if rest and not rest[0][1]:
            return self.shape.parts[rest[0][0]].group & now
        return self.meet_parts(now, rest)

    def known_dead_end(self, bound, added, reason):
        """A group whose values are at a dead end by themselves, once the added group is bound; 0 where there is none.

        Of several groups it is one that brings the fewest variables to the reason that are not in it yet.
        """
        dead_by = 0
        for pattern in self.shape.ready_checks(bound, added):
            if self.is_held(pattern):
                dead_by = smaller_of(dead_by, pattern.group, bound & ~reason)
        for group, cells in self.groups_to_ask(bound, added):
            if self.fill(cells) in self.noted[group]:
                dead_by = smaller_of(dead_by, group, bound & ~reason)
        return dead_by

    def groups_to_ask(self, bound, added):
        """The groups of noted dead ends that are all bound once the added one is, each with its cells."""
        if (bound, added) not in self.asked:
            groups = [group for group in self.noted if is_ready(group, bound, added)]
            self.asked[(bound, added)] = [(group, cells_of(group)) for group in groups]
        return self.asked[(bound, added)]

    def note_dead_end(self, bound, reason):
        # Values for all that is bound don't come again.
        if reason == bound:
            return
        if self.how_many_noted >= MOST_NOTED:
            self.noted = {}
            self.how_many_noted = 0
        if reason not in self.noted:
            self.noted[reason] = {}
            self.asked = {}
        self.noted[reason][self.fill(cells_of(reason))] = True
        self.how_many_noted += 1


def smaller_of(one, other, further):
    """The group with fewer of the further variables; the first one may be 0, which is no group."""
    if one and len(cells_of(one & further)) <= len(cells_of(other & further)):
        return one
    return other
