"""Joins: a plan is carried out over the tables.

Bindings are kept in a dict, each with a height: the highest of the parts' heights that made it, by the way that
keeps this lowest. So a variable can be let go of without losing the lowest proof.
"""

from factsandrules.tables import Table


def join_part(bindings, step, facts):
    """The bindings, each with every fact that the step's part fits."""
    found = {}
    for binding, height in bindings.items():
        row = binding + step.constants
        key = tuple([row[place] for place in step.key])
        for values in facts.matches(step.positions, key):
            if step.same and not all([values[one] == values[other] for one, other in step.same]):
                continue
            whole = row + values
            kept = tuple([whole[place] for place in step.keep])
            highest = max(height, facts.heights[values])
            if kept not in found or highest < found[kept]:
                found[kept] = highest
    return found


def check_part(bindings, step, facts):
    """The bindings for which the step's negated part doesn't hold."""
    found = {}
    for binding, height in bindings.items():
        row = binding + step.constants
        if tuple([row[place] for place in step.key]) not in facts.heights:
            kept = tuple([binding[place] for place in step.keep])
            if kept not in found or height < found[kept]:
                found[kept] = height
    return found


def take_steps(bindings, steps, sources, tables):
    for step in steps:
        if not bindings:
            return {}
        if step.negated:
            bindings = check_part(bindings, step, tables[step.source])
        else:
            bindings = join_part(bindings, step, sources[step.source])
    return bindings


def bindings_of(plan, tables, fresh):
    """The bindings for the head's variables."""
    # Of no parts at all the highest counts as 0.
    start = {(): 0}
    groups = []
    for steps in plan.groups:
        bindings = take_steps(start, steps, tables + [fresh], tables)
        if not bindings:
            return {}
        groups.append(bindings)
    if not groups:
        groups = [start]
    return take_steps(groups[0], plan.closing, [Table(bindings) for bindings in groups], tables)


def heads_of(plan, tables, fresh):
    """The head's values by each binding, with the height of the way: one more than the highest of the parts."""
    found = []
    for binding, height in bindings_of(plan, tables, fresh).items():
        row = binding + plan.head_constants
        found.append((tuple([row[place] for place in plan.head_places]), height + 1))
    return found
