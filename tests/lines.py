"""Helpers for the tests: calls by their names, and answers call by call."""

from treatyjoin.joining import answers

NUMBERS = {
    "jn_start": 0,
    "jn_want": 1,
    "jn_told": 2,
    "jn_holds": 3,
    "jn_closed": 4,
    "jn_greatest": 5,
    "jn_least": 6,
    "jn_with": 7,
    "jn_round": 8,
    "jn_rounds": 9,
    "jn_first": 10,
    "jn_many": 11,
    "jn_nth": 12,
    "jn_around": 13,
    "jn_refuses": 14,
    "jn_key": 15,
    "jn_easier": 16,
    "jn_pledge": 17,
    "jn_back": 18,
    "jn_again": 19,
    "jn_state": 20,
}

FAR = 4294967295


def every_question(n):
    """Each call that changes nothing, with every number that is allowed and the first that is not."""
    calls = [("jn_greatest",), ("jn_least",), ("jn_many",), ("jn_key",)]
    for i in range(n + 1):
        for name in ("jn_told", "jn_around", "jn_refuses"):
            calls.append((name, i))
    for s in range((1 << n) + 1):
        for name in ("jn_holds", "jn_closed", "jn_with", "jn_rounds", "jn_first", "jn_nth"):
            calls.append((name, s))
        for i in range(n + 1):
            calls.append(("jn_round", s, i))
    return calls


def as_numbers(calls):
    line = []
    for call in calls:
        line.append(NUMBERS[call[0]])
        line.extend(call[1:])
    return line


def by_call(answered):
    """The answers, a list for each call; fails if the counts don't fit."""
    split = []
    at = 0
    while at < len(answered):
        end = at + 1 + answered[at]
        if answered[at] < 1 or end > len(answered):
            raise AssertionError(f"counts don't fit: {answered}")
        split.append(answered[at + 1:end])
        at = end
    return split


def ask(*calls):
    """What each of the calls answers, on one new object."""
    return by_call(answers(as_numbers(calls)))


def started(wants):
    """The calls that start an object with these wants, a pair (need, named) for each state."""
    calls = [("jn_start", len(wants))]
    for i, (need, named) in enumerate(wants):
        calls.append(("jn_want", i, need, named))
    return calls


def ask_with(wants, *calls):
    """What each of the calls answers, when the states have these wants."""
    before = started(wants)
    return ask(*before, *calls)[len(before):]
