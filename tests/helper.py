"""Calls as the interface wants them, and answers taken apart again."""

from factsandrules.desk import answers

LOWEST = -2147483648
HIGHEST = 2147483647


def new():
    return [1]


def relation(arity):
    return [2, arity]


def rule(*words):
    return [3, len(words), *words]


def forget(number):
    return [4, number]


def fact(number, there, *terms):
    padded = list(terms) + [0] * (4 - len(terms))
    return [5, number, there, 4, *padded]


def relations(*arities):
    """A new object with relations of these arities, as a list of calls."""
    return [new()] + [relation(arity) for arity in arities]


def ask(calls):
    """What each call answers. Up to now every call answers one number alone."""
    flat = [number for call in calls for number in call]
    given = answers(flat)
    counts = given[0::2]
    if counts != [1] * len(calls) or len(given) != 2 * len(calls):
        raise AssertionError(f"{len(calls)} calls were answered with {given}")
    return given[1::2]


def ask_last(calls, how_many=1):
    """What the last calls answer; the ones ahead of them only make the object ready."""
    return ask(calls)[-how_many:]
