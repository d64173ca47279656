"""Every call held against the document's words, done plainly."""

import random
import unittest
from itertools import product

from tests.lines import FAR, ask, started
from tests.plainly import plain_answers


def every_question(n):
    """Each call that changes nothing, with every number that is allowed and the first that is not."""
    calls = [("jn_greatest",), ("jn_least",)]
    for i in range(n + 1):
        calls.append(("jn_told", i))
    for s in range((1 << n) + 1):
        for name in ("jn_holds", "jn_closed", "jn_with", "jn_rounds", "jn_first"):
            calls.append((name, s))
        for i in range(n + 1):
            calls.append(("jn_round", s, i))
    return calls


def every_want(n, i):
    return [(need, named) for need in range(n + 1) for named in range(1 << n) if not named >> i & 1]


def some_number(chance, n):
    return chance.choice([chance.randrange(n + 1), chance.randrange(1 << n), chance.randrange(1 << n), 1 << n, FAR])


def some_call(chance, n):
    name = chance.choice(
        ["jn_want"] * 6
        + ["jn_told", "jn_holds", "jn_closed", "jn_greatest", "jn_least", "jn_with", "jn_round", "jn_rounds", "jn_first"]
    )
    if name == "jn_want":
        i = chance.randrange(n)
        if chance.randrange(5) == 0:
            return (name, chance.randrange(n + 2), chance.randrange(n + 2), some_number(chance, n))
        return (name, i, chance.randrange(n + 1), chance.randrange(1 << n) & chance.randrange(1 << n) & ~(1 << i))
    if name in ("jn_greatest", "jn_least"):
        return (name,)
    if name == "jn_round":
        return (name, some_number(chance, n), chance.randrange(n + 1))
    return (name, some_number(chance, n))


def some_line(chance):
    n = chance.randrange(1, 9)
    calls = [("jn_start", n)]
    for k in range(60):
        if chance.randrange(25) == 0:
            again = chance.choice([0, 9, FAR, 1, 2, 3, 4, 5, 6, 7, 8])
            calls.append(("jn_start", again))
            n = again if again in range(1, 9) else n
        calls.append(some_call(chance, n))
    return calls


class AgainstWords(unittest.TestCase):
    def check(self, calls):
        for call, given, due in zip(calls, ask(*calls), plain_answers(calls), strict=True):
            self.assertEqual(given, due, (call, calls))

    def test_all_wants_of_one_and_two_states(self):
        for n in (1, 2):
            for wants in product(*[every_want(n, i) for i in range(n)]):
                self.check(started(wants) + every_question(n))

    def test_many_wants_of_three_states(self):
        for k, wants in enumerate(product(*[every_want(3, i) for i in range(3)])):
            if k % 17 == 0:
                self.check(started(wants) + every_question(3))

    def test_lines_of_all_sizes(self):
        chance = random.Random(20)
        for k in range(150):
            self.check(some_line(chance))


class WhatHolds(unittest.TestCase):
    """The rows of "What holds", on wants of five states."""

    def wants(self):
        chance = random.Random(5)
        for k in range(40):
            yield [(chance.randrange(4), chance.randrange(32) & chance.randrange(32) & ~(1 << i)) for i in range(5)]

    def answers(self, wants, name):
        calls = started(wants)
        return ask(*calls, *[(name, s) for s in range(32)])[len(calls):]

    def test_two_sets_that_hold_hold_together(self):
        for wants in self.wants():
            holding = [s for s, given in enumerate(self.answers(wants, "jn_holds")) if given[0] == 1]
            for one, other in product(holding, holding):
                self.assertIn(one | other, holding)
            self.assertEqual(ask(*started(wants), ("jn_greatest",))[-1][1], max(holding))

    def test_the_least(self):
        for wants in self.wants():
            least = ask(*started(wants), ("jn_least",))[-1][1]
            self.assertEqual(self.answers(wants, "jn_holds")[least], [1, 0])
            self.assertEqual(self.answers(wants, "jn_closed")[least], [1, 0])
            for s, given in enumerate(self.answers(wants, "jn_closed")):
                if given[0] == 1:
                    self.assertEqual(least & ~s, 0)

    def test_wanting_less_none_fewer_join(self):
        for wants in self.wants():
            less = [(max(need - 1, 0), named & 21) for need, named in wants]
            for before, behind in zip(self.answers(wants, "jn_with"), self.answers(less, "jn_with")):
                self.assertEqual(before[1] & ~behind[1], 0)

    def test_no_more_rounds_than_states_that_do_not_go_first(self):
        for wants in self.wants():
            for f, given in enumerate(self.answers(wants, "jn_rounds")):
                self.assertLessEqual(given[0], 5 - bin(f).count("1"))
