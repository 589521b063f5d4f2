"""The desk: a list of calls on one object is handed in, the list of answers is given back."""

from factsandrules.session import Session

CALL_NAMES = {
    1: "new", 2: "relation", 3: "rule", 4: "forget", 5: "fact",
    6: "holds", 7: "count", 8: "next", 9: "height",
}

# How many whole numbers a call has, not counting its row.
PLAIN_NUMBERS = {
    "new": 0, "relation": 1, "rule": 0, "forget": 1, "fact": 2,
    "holds": 1, "count": 1, "next": 2, "height": 1,
}
WITH_ROW = ("rule", "fact", "holds", "next", "height")


def split_calls(calls):
    """Each call as its name, its whole numbers and its row (empty where it has none)."""
    split = []
    at = 0
    while at < len(calls):
        name = CALL_NAMES[calls[at]]
        row_at = at + 1 + PLAIN_NUMBERS[name]
        numbers = calls[at + 1:row_at]
        row = []
        at = row_at
        if name in WITH_ROW:
            at = row_at + 1 + calls[row_at]
            row = calls[row_at + 1:at]
        split.append((name, numbers, row))
    return split


def change_or_ask(session, name, numbers, row):
    """What a call answers that answers one number alone."""
    if name == "relation":
        return session.add_relation(numbers[0])
    if name == "rule":
        return session.add_rule(row)
    if name == "forget":
        return session.forget_rule(numbers[0])
    if name == "fact":
        return session.change_fact(numbers[0], numbers[1], row)
    if name == "holds":
        return session.tell_holds(numbers[0], row)
    if name == "count":
        return session.tell_count(numbers[0])
    return session.tell_height(numbers[0], row)


def answers(calls):
    """For each call how many numbers are answered, then these."""
    session = Session()
    given = []
    for name, numbers, row in split_calls(calls):
        if name == "new":
            session = Session()
            answered = [0]
        elif name == "next":
            answered = session.tell_following(numbers[0], numbers[1], row)
        else:
            answered = [change_or_ask(session, name, numbers, row)]
        given.append(len(answered))
        given.extend(answered)
    return given
