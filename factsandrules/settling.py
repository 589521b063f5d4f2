"""Settling: which facts hold, and how high they stand, one component of relations behind another.

A component is the relations that lead to one another through rules, or one relation by itself. Each is settled,
whole, before any that draws from it; a negated part's relation never lies in the head's own component. Within a
component the facts come by their heights, the lowest first: a rule whose highest part comes at a height has its head
come at the next one.
"""

from factsandrules.rules import steps_of
from factsandrules.searches import Search
from factsandrules.shapes import shape_of
from factsandrules.tables import Table
from factsandrules.walks import Walk


class Component:
    """Its relations; all relations that settling it draws from; the rules with a head among its relations: the inner
    ones have a part among them too, the outer ones have none."""

    def __init__(self, relations, rules):
        self.relations = relations
        self.reads = dict([(relation, True) for relation in relations])
        self.outer = []
        self.inner = []
        for rule in rules:
            self.reads.update(dict([(part[0], True) for part in rule.parts + rule.negated]))
            if any([part[0] in relations for part in rule.parts]):
                self.inner.append(rule)
            else:
                self.outer.append(rule)


class Layer:
    """The facts of one relation while heights are gone through: those that came ahead of the height that it is at,
    those that come with it, and both together."""

    def __init__(self):
        self.older = Table([])
        self.fresh = Table([])
        self.both = Table([])

    def take_fresh(self, rows):
        self.fresh = Table(rows)
        self.both.add_rows(rows)

    def let_age(self):
        self.older.add_rows(self.fresh.rows)
        self.fresh = Table([])


def reached_from(start, steps):
    """The relations that the start leads to, itself too, as the keys of a dict."""
    reached = {start: True}
    waiting = [start]
    while waiting:
        place = waiting.pop()
        for step in steps.get(place, []):
            if step[0] not in reached:
                reached[step[0]] = True
                waiting.append(step[0])
    return reached


def distinct_rules(rules):
    """The rules without those that stand again, which would make nothing else hold."""
    found = {}
    for rule in rules:
        found[(rule.head, tuple(rule.parts), tuple(rule.negated))] = rule
    return list(found.values())


def components_of(how_many, all_rules):
    """The components of so many relations, each behind all that it draws from."""
    rules = distinct_rules(all_rules)
    steps = steps_of(rules)
    reached = [reached_from(relation, steps) for relation in range(how_many)]
    components = []
    placed = {}
    # What leads to another relation, but not back, reaches more relations than that one.
    for relation in sorted(range(how_many), key=lambda number: -len(reached[number])):
        if relation not in placed:
            members = [other for other in reached[relation] if relation in reached[other]]
            placed.update(dict([(member, True) for member in members]))
            components.append(Component(members, [rule for rule in rules if rule.head[0] in members]))
    return components


def put_coming(coming, relation, facts):
    """Puts the facts, pairs of values and height, where they come at their heights."""
    for values, height in facts:
        coming.setdefault(height, {}).setdefault(relation, {})[values] = True


def told_coming(component, told, heights):
    """Empties the component's relations; what comes at each height then is at first what is told."""
    coming = {}
    for relation in component.relations:
        heights[relation] = {}
        put_coming(coming, relation, [(values, 0) for values in told[relation]])
    return coming


def has_one_height(rule, heights):
    """Whether all that the rule's parts may be met by has the same height."""
    found = {}
    for relation in dict([(part[0], True) for part in rule.parts]):
        for height in heights[relation].values():
            found[height] = True
    return len(found) == 1


def walked_heads(rule, heights, tables):
    """The heads of an outer rule, with their heights; None where it is better searched, height by height.

    The tables are those of settled relations that were asked for so far.
    """
    # A search needs fewer steps than a walk, but it has to be begun anew for each height.
    if has_one_height(rule, heights):
        return None
    for relation, terms in rule.parts:
        if relation not in tables:
            tables[relation] = Table(list(heights[relation]))
    return Walk(shape_of(rule), [tables[part[0]] for part in rule.parts], heights).find_heights()


def make_layers(rules, heights, coming):
    """A layer for each relation that the rules' parts ask for; the facts that it has already are to come."""
    layers = {}
    for rule in rules:
        for relation, terms in rule.parts:
            if relation not in layers:
                layers[relation] = Layer()
                put_coming(coming, relation, list(heights[relation].items()))
    return layers


def take_coming(facts, height, heights, layers):
    """Has the facts hold at this height, but for those that hold at a lower one; gives back the layers' relations that
    have fresh ones by that."""
    fresh = []
    for relation in facts:
        held = heights[relation]
        rows = [values for values in facts[relation] if held.setdefault(values, height) == height]
        if rows and relation in layers:
            layers[relation].take_fresh(rows)
            fresh.append(relation)
    return fresh


def tables_of(rule, at, layers):
    """A table for each part: the fresh facts for the part of this number, and the older ones alone for those ahead of
    it, so that no way is gone through twice."""
    tables = []
    for number, part in enumerate(rule.parts):
        layer = layers[part[0]]
        if number == at:
            tables.append(layer.fresh)
        else:
            tables.append(layer.older if number < at else layer.both)
    return tables


def search_heads(rule, fresh, layers, heights, height):
    """The new heads where a part is met by a fresh fact, at this height."""
    heads = []
    for at, part in enumerate(rule.parts):
        if part[0] in fresh:
            heads.extend(Search(shape_of(rule), tables_of(rule, at, layers), heights, height).find_heads())
    return [(values, height) for values in heads]


def settle_component(component, told, heights, tables):
    coming = told_coming(component, told, heights)
    searched = list(component.inner)
    for rule in component.outer:
        heads = walked_heads(rule, heights, tables)
        if heads is None:
            searched.append(rule)
        else:
            put_coming(coming, rule.head[0], heads)
    layers = make_layers(searched, heights, coming)
    # The lowest height goes first: no way that is found later can bring a fact below it.
    while coming:
        height = min(coming)
        fresh = take_coming(coming.pop(height), height, heights, layers)
        for rule in searched:
            put_coming(coming, rule.head[0], search_heads(rule, fresh, layers, heights, height + 1))
        for relation in fresh:
            layers[relation].let_age()


def settle_changed(components, changed, told, heights):
    """Settles anew what draws from the changed relations, in whatever many steps."""
    stale = dict(changed)
    tables = {}
    for component in components:
        if any([relation in stale for relation in component.reads]):
            settle_component(component, told, heights, tables)
            stale.update(dict([(relation, True) for relation in component.relations]))
