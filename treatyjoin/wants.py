"""Sets of states, told as whole numbers, and what the states' wants make of them."""


class Want:
    """How many others a state needs, and the set of others that it names."""

    def __init__(self, need, named):
        self.need = need
        self.named = named


def size(s):
    """How many states are in the set s."""
    count = 0
    while s > 0:
        s = s & (s - 1)
        count += 1
    return count


def has(s, i):
    return (s >> i) % 2 == 1


def without(s, gone):
    return s & ~gone


def lowest_and_one(s):
    """The least state in the set s, and one more; 0 if nobody is in it."""
    return (s & -s).bit_length()


def everyone(wants):
    return (1 << len(wants)) - 1


def wants_nothing(want):
    return want.need == 0 and want.named == 0


def with_want(wants, i, want):
    """The same wants, but that state i wants this."""
    return wants[:i] + (want,) + wants[i + 1:]


def wanting_something(wants, s):
    """Those of the set s who want something."""
    wanting = 0
    for i, want in enumerate(wants):
        if has(s, i) and not wants_nothing(want):
            wanting = wanting | (1 << i)
    return wanting


def with_pledge(wants, s):
    """The same wants, but that those of the set s want nothing."""
    return tuple([Want(0, 0) if has(s, i) else want for i, want in enumerate(wants)])


def met_by(wants, s):
    """All states, in the set s or not, whose wants are met by it."""
    count = size(s)
    met = 0
    for i, want in enumerate(wants):
        # A state of the set is not one of the others that it needs.
        others = count - 1 if has(s, i) else count
        if others >= want.need and without(want.named, s) == 0:
            met = met | (1 << i)
    return met


def unmet_within(wants, s):
    return without(s, met_by(wants, s))


def met_outside(wants, s):
    return without(met_by(wants, s), s)


def greatest_within(wants, s):
    """The greatest set that holds of those that lie within s."""
    # With fewer states no want is met that wasn't before: whoever's isn't met
    # is in no set within s that holds.
    unmet = unmet_within(wants, s)
    while unmet > 0:
        s = without(s, unmet)
        unmet = unmet_within(wants, s)
    return s


def greatest_without(wants, i):
    return greatest_within(wants, without(everyone(wants), 1 << i))


def left_by_refusal(wants):
    """For each state of the greatest set that holds: how many are left if it refuses, and the state."""
    greatest = greatest_within(wants, everyone(wants))
    return [(size(greatest_without(wants, i)), i) for i in range(len(wants)) if has(greatest, i)]


def sets_that_hold(wants):
    """All sets that hold, as their numbers rise."""
    return [s for s in range(everyone(wants) + 1) if unmet_within(wants, s) == 0]


def joined_by_round(wants, first):
    """Who have joined when each round is over, from round 0 to the last in which somebody joins."""
    joined = [first]
    new = met_outside(wants, first)
    while new > 0:
        joined.append(joined[-1] | new)
        new = met_outside(wants, joined[-1])
    return joined


def who_all_join(wants, first):
    return joined_by_round(wants, first)[-1]


def fewest_first(wants, goal):
    """The fewest who go first so that all of goal join, of like ones the least number."""
    everybody = everyone(wants)
    fewest = everybody
    # Numbers rise, so only a smaller set may take the place of one found before.
    for first in range(everybody):
        if size(first) < size(fewest) and without(goal, who_all_join(wants, first)) == 0:
            fewest = first
    return fewest
