"""Helpers for the tests: calls by their names, and answers call by call."""

from treatyjoin.joining import answers

NUMBERS = {
    "jn_start": 0,
    "jn_want": 1,
    "jn_told": 2,
    "jn_holds": 3,
    "jn_closed": 4,
    "jn_greatest": 5,
    "jn_least": 6,
    "jn_with": 7,
    "jn_round": 8,
    "jn_rounds": 9,
    "jn_first": 10,
}

FAR = 4294967295


def as_numbers(calls):
    line = []
    for call in calls:
        line.append(NUMBERS[call[0]])
        line.extend(call[1:])
    return line


def by_call(answered):
    """The answers, a list for each call; fails if the counts don't fit."""
    split = []
    at = 0
    while at < len(answered):
        end = at + 1 + answered[at]
        if answered[at] < 1 or end > len(answered):
            raise AssertionError(f"counts don't fit: {answered}")
        split.append(answered[at + 1:end])
        at = end
    return split


def ask(*calls):
    """What each of the calls answers, on one new object."""
    return by_call(answers(as_numbers(calls)))


def started(wants):
    """The calls that start an object with these wants, a pair (need, named) for each state."""
    calls = [("jn_start", len(wants))]
    for i, (need, named) in enumerate(wants):
        calls.append(("jn_want", i, need, named))
    return calls


def ask_with(wants, *calls):
    """What each of the calls answers, when the states have these wants."""
    before = started(wants)
    return ask(*before, *calls)[len(before):]
