"""The document's words done plainly over Python's sets, to hold the program against."""

from itertools import combinations


def as_set(number):
    return frozenset(i for i in range(number.bit_length()) if number >> i & 1)


def as_number(states):
    return sum(2 ** i for i in states)


def all_sets(n):
    return [as_set(number) for number in range(2 ** n)]


class Plainly:
    """A treaty by the definitions alone; each method answers as the call of its name does."""

    def __init__(self):
        # What all wanted one change behind another, and which of these is so now.
        self.told = None
        self.now = None

    @property
    def wants(self):
        return self.told[self.now]

    def change(self, changed):
        """changed: what the states that are told anew want."""
        wants = [changed.get(i, want) for i, want in enumerate(self.wants)]
        self.told = self.told[:self.now + 1] + [wants]
        while len(self.told) > 21:
            self.told.pop(0)
        self.now = len(self.told) - 1

    def jn_start(self, n):
        if n not in range(1, 9):
            return [-22]
        self.told = [[(0, 0)] * n]
        self.now = 0
        return [0]

    def missing(self, i):
        return i not in range(len(self.wants))

    def no_set(self, s):
        return s not in range(2 ** len(self.wants))

    def met(self, i, states):
        need, named = self.wants[i]
        return len(states - {i}) >= need and as_set(named) <= states

    def holds(self, states):
        return all(self.met(i, states) for i in states)

    def join_one_by_one(self, first):
        joined = set(first)
        while True:
            ready = [i for i in range(len(self.wants)) if i not in joined and self.met(i, joined)]
            if not ready:
                return joined
            joined.add(ready[-1])

    def rounds(self, first):
        """The round of each state that joins."""
        joined = {i: 0 for i in first}
        number = 0
        while True:
            number += 1
            ready = [i for i in range(len(self.wants)) if i not in joined and self.met(i, set(joined))]
            if not ready:
                return joined
            joined.update((i, number) for i in ready)

    def jn_want(self, i, need, named):
        if self.missing(i):
            return [-2]
        if need > len(self.wants) or self.no_set(named) or i in as_set(named):
            return [-22]
        before = self.wants[i]
        self.change({i: (need, named)})
        return list(before)

    def jn_told(self, i):
        return [-2] if self.missing(i) else list(self.wants[i])

    def jn_holds(self, s):
        if self.no_set(s):
            return [-22]
        unmet = [i for i in sorted(as_set(s)) if not self.met(i, as_set(s))]
        return [0, unmet[0] + 1] if unmet else [1, 0]

    def jn_closed(self, s):
        if self.no_set(s):
            return [-22]
        outside = [i for i in range(len(self.wants)) if i not in as_set(s) and self.met(i, as_set(s))]
        return [0, outside[0] + 1] if outside else [1, 0]

    def holding(self):
        return [states for states in all_sets(len(self.wants)) if self.holds(states)]

    def greatest(self, sets):
        (greatest,) = [states for states in sets if all(other <= states for other in sets)]
        return [len(greatest), as_number(greatest)]

    def jn_greatest(self):
        return self.greatest(self.holding())

    def jn_refuses(self, i):
        if self.missing(i):
            return [-2]
        return self.greatest([states for states in self.holding() if i not in states])

    def jn_key(self):
        members = sorted(as_set(self.jn_greatest()[1]))
        if not members:
            return [-33]
        left = {i: self.jn_refuses(i)[0] for i in members}
        fewest = min(left.values())
        return [min(i for i in members if left[i] == fewest), fewest]

    def jn_many(self):
        closed = [states for states in self.holding() if self.jn_closed(as_number(states)) == [1, 0]]
        return [len(self.holding()), len(closed)]

    def jn_nth(self, k):
        numbers = sorted(as_number(states) for states in self.holding())
        if k not in range(len(numbers)):
            return [-33]
        return [len(as_set(numbers[k])), numbers[k]]

    def jn_around(self, i):
        if self.missing(i):
            return [-2]
        around = sorted((len(states), as_number(states)) for states in self.holding() if i in states)
        return list(around[0]) if around else [-33]

    def jn_easier(self, i):
        if self.missing(i):
            return [-2]
        need, named = self.wants[i]
        if need == 0:
            return [-33]
        self.change({i: (need - 1, named)})
        return [need - 1]

    def jn_pledge(self, s):
        if self.no_set(s):
            return [-22]
        new = [i for i in as_set(s) if self.wants[i] != (0, 0)]
        if not new:
            return [-17]
        self.change({i: (0, 0) for i in as_set(s)})
        return [len(new)]

    def jn_back(self):
        if self.now == 0:
            return [-2]
        self.now -= 1
        return [self.now]

    def jn_again(self):
        still = len(self.told) - 1 - self.now
        if still == 0:
            return [-2]
        self.now += 1
        return [still - 1]

    def jn_state(self):
        return [len(self.wants), self.now, len(self.told) - 1 - self.now]

    def jn_least(self):
        return self.jn_with(0)

    def jn_with(self, f):
        if self.no_set(f):
            return [-22]
        joined = self.join_one_by_one(as_set(f))
        return [len(joined), as_number(joined)]

    def jn_round(self, f, i):
        if self.missing(i):
            return [-2]
        if self.no_set(f):
            return [-22]
        return [self.rounds(as_set(f)).get(i, -33)]

    def jn_rounds(self, f):
        if self.no_set(f):
            return [-22]
        return [len(set(self.rounds(as_set(f)).values()) - {0})]

    def jn_first(self, g):
        if self.no_set(g):
            return [-22]
        for count in range(len(self.wants) + 1):
            enough = [
                as_number(first)
                for first in combinations(range(len(self.wants)), count)
                if as_set(g) <= self.join_one_by_one(first)
            ]
            if enough:
                return [count, min(enough)]
        raise AssertionError("all of g would do")


def plain_answers(calls):
    """What each of the calls answers; a call is its name and its numbers."""
    plainly = Plainly()
    return [getattr(plainly, call[0])(*call[1:]) for call in calls]
