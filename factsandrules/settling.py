"""Settling: which facts hold, and how high they stand, one component of relations behind another.

A component is the relations that lead to one another through rules, or one relation by itself. Each is settled,
whole, before any that draws from it; a negated part's relation never lies in the head's own component. Within a
component the facts come by their heights, the lowest first: a rule whose highest part comes at a height has its head
come at the next one.
"""

from factsandrules.rules import steps_of
from factsandrules.searches import Search
from factsandrules.shapes import shape_of
from factsandrules.tables import Table


class Component:
    """Its relations; all relations that settling it draws from; of these the sources, which parts that aren't negated
    ask for; the bare rules, which have no such part; and a rule and a part's number for each such part."""

    def __init__(self, relations, rules):
        self.relations = relations
        self.reads = dict([(relation, True) for relation in relations])
        self.sources = {}
        self.bare = [rule for rule in rules if not rule.parts]
        self.met = []
        for rule in rules:
            self.reads.update(dict([(part[0], True) for part in rule.parts + rule.negated]))
            self.sources.update(dict([(part[0], True) for part in rule.parts]))
            self.met.extend([(rule, at) for at in range(len(rule.parts))])


class Layer:
    """The facts of one source while heights are gone through: those that came ahead of the height that it is at,
    those that come with it, and both together."""

    def __init__(self):
        self.older = Table()
        self.fresh = Table()
        self.both = Table()

    def take_fresh(self, rows):
        self.fresh = Table()
        self.fresh.add_rows(rows)
        self.both.add_rows(rows)

    def let_age(self):
        self.older.add_rows(self.fresh.rows)
        self.fresh = Table()


def reached_from(start, steps):
    """The relations that the start leads to, itself too, as the keys of a dict."""
    reached = {start: True}
    waiting = [start]
    while waiting:
        place = waiting.pop()
        for step in steps.get(place, []):
            if step[0] not in reached:
                reached[step[0]] = True
                waiting.append(step[0])
    return reached


def distinct_rules(rules):
    """The rules without those that stand again, which would make nothing else hold."""
    found = {}
    for rule in rules:
        found[(rule.head, tuple(rule.parts), tuple(rule.negated))] = rule
    return list(found.values())


def components_of(how_many, all_rules):
    """The components of so many relations, each behind all that it draws from."""
    rules = distinct_rules(all_rules)
    steps = steps_of(rules)
    reached = [reached_from(relation, steps) for relation in range(how_many)]
    components = []
    placed = {}
    # What leads to another relation, but not back, reaches more relations than that one.
    for relation in sorted(range(how_many), key=lambda number: -len(reached[number])):
        if relation not in placed:
            members = [other for other in reached[relation] if relation in reached[other]]
            placed.update(dict([(member, True) for member in members]))
            components.append(Component(members, [rule for rule in rules if rule.head[0] in members]))
    return components


def put_coming(coming, relation, facts):
    """Puts the facts, pairs of values and height, where they come at their heights."""
    for values, height in facts:
        coming.setdefault(height, {}).setdefault(relation, []).append(values)


def first_coming(component, told, heights):
    """What comes at each height, as far as that is known at first: told facts, and those that are settled already."""
    for relation in component.relations:
        heights[relation] = dict([(values, 0) for values in told[relation]])
    coming = {}
    for relation in component.sources:
        put_coming(coming, relation, list(heights[relation].items()))
    return coming


def tables_of(rule, at, layers):
    """A table for each part: the fresh facts for the part of this number, and the older ones alone for those ahead of
    it, so that no way is gone through twice."""
    tables = []
    for number, part in enumerate(rule.parts):
        layer = layers[part[0]]
        if number == at:
            tables.append(layer.fresh)
        else:
            tables.append(layer.older if number < at else layer.both)
    return tables


def settle_component(component, told, heights):
    coming = first_coming(component, told, heights)
    layers = dict([(relation, Layer()) for relation in component.sources])

    def add_heads(rule, tables, height):
        heads = Search(shape_of(rule), tables, heights, height).find_heads()
        if rule.head[0] in component.sources:
            put_coming(coming, rule.head[0], [(values, height) for values in heads])

    for rule in component.bare:
        add_heads(rule, [], 1)
    while coming:
        height = min(coming)
        fresh = coming.pop(height)
        for relation in fresh:
            layers[relation].take_fresh(fresh[relation])
        for rule, at in component.met:
            if rule.parts[at][0] in fresh:
                add_heads(rule, tables_of(rule, at, layers), height + 1)
        for relation in fresh:
            layers[relation].let_age()


def settle_changed(components, changed, told, heights):
    """Settles anew what draws from the changed relations, in whatever many steps."""
    stale = dict(changed)
    for component in components:
        if any([relation in stale for relation in component.reads]):
            settle_component(component, told, heights)
            stale.update(dict([(relation, True) for relation in component.relations]))
