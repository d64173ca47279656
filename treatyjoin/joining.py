"""The calls on a treaty: each is handed its numbers in a list, and gives back its answer as a list."""

from treatyjoin.treaty import Treaty
from treatyjoin.wants import (
    Want,
    everyone,
    fewest_first,
    greatest_within,
    has,
    joined_by_round,
    lowest_and_one,
    met_outside,
    size,
    unmet_within,
    who_all_join,
)

MOST_STATES = 8

NOT_THERE = -2
NOT_FIT = -22
NOT_TO_BE_HAD = -33


def told_set(s):
    return [size(s), s]


def told_first(s):
    """1 if nobody is in s, else 0; and behind it the first one in s, and one more."""
    return [1 if s == 0 else 0, lowest_and_one(s)]


def call_start(treaty, given):
    n = given[0]
    if n < 1 or n > MOST_STATES:
        return [NOT_FIT]
    treaty.begin(n)
    return [0]


def call_want(treaty, given):
    i = given[0]
    need = given[1]
    named = given[2]
    if not treaty.has_state(i):
        return [NOT_THERE]
    if need > len(treaty.wants) or not treaty.has_set(named) or has(named, i):
        return [NOT_FIT]
    before = treaty.wants[i]
    treaty.change(i, Want(need, named))
    return [before.need, before.named]


def call_told(treaty, given):
    i = given[0]
    if not treaty.has_state(i):
        return [NOT_THERE]
    want = treaty.wants[i]
    return [want.need, want.named]


def call_holds(treaty, given):
    s = given[0]
    if not treaty.has_set(s):
        return [NOT_FIT]
    return told_first(unmet_within(treaty.wants, s))


def call_closed(treaty, given):
    s = given[0]
    if not treaty.has_set(s):
        return [NOT_FIT]
    return told_first(met_outside(treaty.wants, s))


def call_greatest(treaty, given):
    return told_set(greatest_within(treaty.wants, everyone(treaty.wants)))


def call_least(treaty, given):
    return told_set(who_all_join(treaty.wants, 0))


def call_with(treaty, given):
    f = given[0]
    if not treaty.has_set(f):
        return [NOT_FIT]
    return told_set(who_all_join(treaty.wants, f))


def call_round(treaty, given):
    f = given[0]
    i = given[1]
    if not treaty.has_state(i):
        return [NOT_THERE]
    if not treaty.has_set(f):
        return [NOT_FIT]
    for number, joined in enumerate(joined_by_round(treaty.wants, f)):
        if has(joined, i):
            return [number]
    return [NOT_TO_BE_HAD]


def call_rounds(treaty, given):
    f = given[0]
    if not treaty.has_set(f):
        return [NOT_FIT]
    # Round 0 isn't counted.
    return [len(joined_by_round(treaty.wants, f)) - 1]


def call_first(treaty, given):
    g = given[0]
    if not treaty.has_set(g):
        return [NOT_FIT]
    return told_set(fewest_first(treaty.wants, g))


# A call's number is its place in both of these.
CALLS = (
    call_start,
    call_want,
    call_told,
    call_holds,
    call_closed,
    call_greatest,
    call_least,
    call_with,
    call_round,
    call_rounds,
    call_first,
)
HOW_MANY_GIVEN = (1, 3, 1, 1, 1, 0, 0, 1, 2, 1, 1)


def answers(calls):
    """The answers to the calls on one new treaty, each with how many numbers it has before it."""
    treaty = Treaty()
    answered = []
    at = 0
    while at < len(calls):
        number = calls[at]
        end = at + 1 + HOW_MANY_GIVEN[number]
        answer = CALLS[number](treaty, calls[at + 1:end])
        answered.append(len(answer))
        answered.extend(answer)
        at = end
    return answered
