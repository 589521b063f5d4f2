"""Settling: which facts hold, and how high they stand, one component of relations behind another.

A component is the relations that lead to one another through rules, or one relation by itself. Each is settled,
whole, before any that draws from it; a negated part's relation never lies in the head's own component.
"""

from factsandrules.joins import heads_of
from factsandrules.plans import plan_for
from factsandrules.rules import steps_of
from factsandrules.tables import Table


class Component:
    """Its relations; all relations that settling it draws from; the rules with a head among its relations.

    The outer rules have no part within the component; inner holds a rule and a part's number for each part within it.
    """

    def __init__(self, relations, rules):
        self.relations = relations
        self.reads = dict([(relation, True) for relation in relations])
        self.outer = []
        self.inner = []
        for rule in rules:
            for part in rule.parts + rule.negated:
                self.reads[part[0]] = True
            within = [at for at, part in enumerate(rule.parts) if part[0] in relations]
            self.inner.extend([(rule, at) for at in within])
            if not within:
                self.outer.append(rule)


def reached_from(start, steps):
    """The relations that the start leads to, itself too, as the keys of a dict."""
    reached = {start: True}
    waiting = [start]
    while waiting:
        place = waiting.pop()
        for step in steps.get(place, []):
            if step[0] not in reached:
                reached[step[0]] = True
                waiting.append(step[0])
    return reached


def distinct_rules(rules):
    """The rules without those that stand again, which would make nothing else hold."""
    found = {}
    for rule in rules:
        found[(rule.head, tuple(rule.parts), tuple(rule.negated))] = rule
    return list(found.values())


def components_of(how_many, all_rules):
    """The components of so many relations, each behind all that it draws from."""
    rules = distinct_rules(all_rules)
    steps = steps_of(rules)
    reached = [reached_from(relation, steps) for relation in range(how_many)]
    components = []
    placed = {}
    # What leads to another relation, but not back, reaches more relations than that one.
    for relation in sorted(range(how_many), key=lambda number: -len(reached[number])):
        if relation not in placed:
            members = [other for other in reached[relation] if relation in reached[other]]
            placed.update(dict([(member, True) for member in members]))
            components.append(Component(members, [rule for rule in rules if rule.head[0] in members]))
    return components


def put_waiting(waiting, relation, facts):
    """Puts the facts, pairs of values and height, where they wait for their height's turn."""
    for values, height in facts:
        waiting.setdefault(height, []).append((relation, values))


def settle_facts(facts, height, tables):
    """Takes the facts that don't stand lower already; gives back a table of the fresh ones for each relation."""
    fresh = {}
    for relation, values in facts:
        if values not in tables[relation].heights:
            tables[relation].add(values, height)
            fresh.setdefault(relation, Table({})).add(values, height)
    return fresh


def first_waiting(component, told, tables):
    """What is told, and what follows by the outer rules, by height."""
    waiting = {}
    for relation in component.relations:
        put_waiting(waiting, relation, [(values, 0) for values in told[relation]])
    for rule in component.outer:
        put_waiting(waiting, rule.head[0], heads_of(plan_for(rule, None), tables, None))
    return waiting


def settle_component(component, told, tables):
    for relation in component.relations:
        tables[relation] = Table({})
    waiting = first_waiting(component, told, tables)
    # The lowest height goes first: no way that is found later can bring a fact below it.
    while waiting:
        height = min(waiting)
        fresh = settle_facts(waiting.pop(height), height, tables)
        for rule, at in component.inner:
            relation = rule.parts[at][0]
            if relation in fresh:
                put_waiting(waiting, rule.head[0], heads_of(plan_for(rule, at), tables, fresh[relation]))


def settle_changed(components, changed, told, tables):
    """Settles anew what draws from the changed relations, in whatever many steps."""
    stale = dict(changed)
    for component in components:
        if any([relation in stale for relation in component.reads]):
            settle_component(component, told, tables)
            stale.update(dict([(relation, True) for relation in component.relations]))
