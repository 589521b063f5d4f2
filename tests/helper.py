"""Calls as the interface wants them, and answers taken apart again."""

from factsandrules.desk import answers

LOWEST = -2147483648
HIGHEST = 2147483647


def new():
    return [1]


def relation(arity):
    return [2, arity]


def rule(*words):
    return [3, len(words), *words]


def forget(number):
    return [4, number]


def padded(terms):
    """Four terms as a row, with its length ahead."""
    return [4, *terms, *[0] * (4 - len(terms))]


def fact(number, there, *terms):
    return [5, number, there, *padded(terms)]


def holds(number, *terms):
    return [6, number, *padded(terms)]


def count(number):
    return [7, number]


def following(number, first, *terms):
    """The call next, which would hide a name of Python's own."""
    return [8, number, first, *padded(terms)]


def height(number, *terms):
    return [9, number, *padded(terms)]


def relations(*arities):
    """A new object with relations of these arities, as a list of calls."""
    return [new()] + [relation(arity) for arity in arities]


def answer_of(call, numbers):
    """A number alone, or, of next where there is such a fact, the four numbers of it."""
    if len(numbers) == 1 and (call[0] != 8 or numbers[0] != 1):
        return numbers[0]
    if len(numbers) == 5 and call[0] == 8 and numbers[0] == 1:
        return numbers[1:]
    raise AssertionError(f"{call} was answered with {numbers}")


def ask(calls):
    """What each call answers."""
    given = answers([number for call in calls for number in call])
    found = []
    at = 0
    for call in calls:
        behind = at + 1 + given[at]
        found.append(answer_of(call, given[at + 1:behind]))
        at = behind
    if at != len(given):
        raise AssertionError(f"{len(calls)} calls were answered with {given}")
    return found


def ask_last(calls, how_many=1):
    """What the last calls answer; the ones ahead of them only make the object ready."""
    return ask(calls)[-how_many:]
