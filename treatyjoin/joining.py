"""The calls on a treaty: each is handed its numbers in a list, and gives back its answer as a list."""

from treatyjoin.treaty import Treaty
from treatyjoin.wants import (
    Want,
    everyone,
    fewest_first,
    greatest_within,
    greatest_without,
    has,
    joined_by_round,
    left_by_refusal,
    lowest_and_one,
    met_outside,
    sets_that_hold,
    size,
    unmet_within,
    wanting_something,
    who_all_join,
    with_pledge,
    with_want,
)

MOST_STATES = 8

NOT_THERE = -2
ALREADY_SO = -17
NOT_FIT = -22
NOT_TO_BE_HAD = -33


def told_set(s):
    return [size(s), s]


def told_first(s):
    """1 if nobody is in s, else 0; and behind it the first one in s, and one more."""
    return [1 if s == 0 else 0, lowest_and_one(s)]


def call_start(treaty, given):
    n = given[0]
    if n < 1 or n > MOST_STATES:
        return [NOT_FIT]
    treaty.begin(n)
    return [0]


def call_want(treaty, given):
    i = given[0]
    need = given[1]
    named = given[2]
    if not treaty.has_state(i):
        return [NOT_THERE]
    if need > len(treaty.wants) or not treaty.has_set(named) or has(named, i):
        return [NOT_FIT]
    before = treaty.wants[i]
    treaty.change(with_want(treaty.wants, i, Want(need, named)))
    return [before.need, before.named]


def call_told(treaty, given):
    i = given[0]
    if not treaty.has_state(i):
        return [NOT_THERE]
    want = treaty.wants[i]
    return [want.need, want.named]


def call_holds(treaty, given):
    s = given[0]
    if not treaty.has_set(s):
        return [NOT_FIT]
    return told_first(unmet_within(treaty.wants, s))


def call_closed(treaty, given):
    s = given[0]
    if not treaty.has_set(s):
        return [NOT_FIT]
    return told_first(met_outside(treaty.wants, s))


def call_greatest(treaty, given):
    return told_set(greatest_within(treaty.wants, everyone(treaty.wants)))


def call_least(treaty, given):
    return told_set(who_all_join(treaty.wants, 0))


def call_with(treaty, given):
    f = given[0]
    if not treaty.has_set(f):
        return [NOT_FIT]
    return told_set(who_all_join(treaty.wants, f))


def call_round(treaty, given):
    f = given[0]
    i = given[1]
    if not treaty.has_state(i):
        return [NOT_THERE]
    if not treaty.has_set(f):
        return [NOT_FIT]
    for number, joined in enumerate(joined_by_round(treaty.wants, f)):
        if has(joined, i):
            return [number]
    return [NOT_TO_BE_HAD]


def call_rounds(treaty, given):
    f = given[0]
    if not treaty.has_set(f):
        return [NOT_FIT]
    # Round 0 isn't counted.
    return [len(joined_by_round(treaty.wants, f)) - 1]


def call_first(treaty, given):
    g = given[0]
    if not treaty.has_set(g):
        return [NOT_FIT]
    return told_set(fewest_first(treaty.wants, g))


def call_many(treaty, given):
    holding = sets_that_hold(treaty.wants)
    both = [s for s in holding if met_outside(treaty.wants, s) == 0]
    return [len(holding), len(both)]


def call_nth(treaty, given):
    k = given[0]
    holding = sets_that_hold(treaty.wants)
    if k >= len(holding):
        return [NOT_TO_BE_HAD]
    return told_set(holding[k])


def call_around(treaty, given):
    i = given[0]
    if not treaty.has_state(i):
        return [NOT_THERE]
    around = [s for s in sets_that_hold(treaty.wants) if has(s, i)]
    if len(around) == 0:
        return [NOT_TO_BE_HAD]
    # Numbers rise, and min takes the first of like ones.
    return told_set(min(around, key=size))


def call_refuses(treaty, given):
    i = given[0]
    if not treaty.has_state(i):
        return [NOT_THERE]
    return told_set(greatest_without(treaty.wants, i))


def call_key(treaty, given):
    refusals = left_by_refusal(treaty.wants)
    if len(refusals) == 0:
        return [NOT_TO_BE_HAD]
    fewest = min(refusals)
    return [fewest[1], fewest[0]]


def call_easier(treaty, given):
    i = given[0]
    if not treaty.has_state(i):
        return [NOT_THERE]
    want = treaty.wants[i]
    if want.need == 0:
        return [NOT_TO_BE_HAD]
    treaty.change(with_want(treaty.wants, i, Want(want.need - 1, want.named)))
    return [want.need - 1]


def call_pledge(treaty, given):
    s = given[0]
    if not treaty.has_set(s):
        return [NOT_FIT]
    new = wanting_something(treaty.wants, s)
    if new == 0:
        return [ALREADY_SO]
    treaty.change(with_pledge(treaty.wants, s))
    return [size(new)]


def call_back(treaty, given):
    if len(treaty.past) == 0:
        return [NOT_THERE]
    treaty.take_back()
    return [len(treaty.past)]


def call_again(treaty, given):
    if len(treaty.ahead) == 0:
        return [NOT_THERE]
    treaty.do_again()
    return [len(treaty.ahead)]


def call_state(treaty, given):
    return [len(treaty.wants), len(treaty.past), len(treaty.ahead)]


# A call's number is its place in both of these.
CALLS = (
    call_start,
    call_want,
    call_told,
    call_holds,
    call_closed,
    call_greatest,
    call_least,
    call_with,
    call_round,
    call_rounds,
    call_first,
    call_many,
    call_nth,
    call_around,
    call_refuses,
    call_key,
    call_easier,
    call_pledge,
    call_back,
    call_again,
    call_state,
)
HOW_MANY_GIVEN = (1, 3, 1, 1, 1, 0, 0, 1, 2, 1, 1, 0, 1, 1, 1, 0, 1, 1, 0, 0, 0)


def answers(calls):
    """The answers to the calls on one new treaty, each with how many numbers it has before it."""
    treaty = Treaty()
    answered = []
    at = 0
    while at < len(calls):
        number = calls[at]
        end = at + 1 + HOW_MANY_GIVEN[number]
        answer = CALLS[number](treaty, calls[at + 1:end])
        answered.append(len(answer))
        answered.extend(answer)
        at = end
    return answered
