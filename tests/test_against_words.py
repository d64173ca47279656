"""Every call held against the document's words, done plainly."""

import random
import unittest
from itertools import product

from tests.lines import FAR, ask, every_question, started
from tests.plainly import plain_answers


def every_want(n, i):
    return [(need, named) for need in range(n + 1) for named in range(1 << n) if not named >> i & 1]


def some_number(chance, n):
    return chance.choice([chance.randrange(n + 1), chance.randrange(1 << n), chance.randrange(1 << n), 1 << n, FAR])


ASKING = (
    "jn_told jn_holds jn_closed jn_greatest jn_least jn_with jn_round jn_rounds jn_first jn_many jn_nth jn_around"
    " jn_refuses jn_key jn_state"
).split()
CHANGING = ["jn_want"] * 6 + ["jn_easier"] * 2 + ["jn_pledge"]
MOVING = ["jn_back"] * 3 + ["jn_again"] * 2
WITHOUT_NUMBERS = ("jn_greatest", "jn_least", "jn_many", "jn_key", "jn_back", "jn_again", "jn_state")


def some_want(chance, n):
    if chance.randrange(5) == 0:
        return ("jn_want", chance.randrange(n + 2), chance.randrange(n + 2), some_number(chance, n))
    i = chance.randrange(n)
    return ("jn_want", i, chance.randrange(n + 1), chance.randrange(1 << n) & chance.randrange(1 << n) & ~(1 << i))


def some_call(chance, n, names):
    name = chance.choice(names)
    if name == "jn_want":
        return some_want(chance, n)
    if name in WITHOUT_NUMBERS:
        return (name,)
    if name == "jn_round":
        return (name, some_number(chance, n), chance.randrange(n + 1))
    if name in ("jn_told", "jn_around", "jn_refuses", "jn_easier"):
        return (name, chance.choice([chance.randrange(n), chance.randrange(n), n, FAR]))
    return (name, some_number(chance, n))


def some_line(chance, names, length):
    n = chance.randrange(1, 9)
    calls = [("jn_start", n)]
    for k in range(length):
        if chance.randrange(50) == 0:
            again = chance.choice([0, 9, FAR, 1, 2, 3, 4, 5, 6, 7, 8])
            calls.append(("jn_start", again))
            n = again if again in range(1, 9) else n
        calls.append(some_call(chance, n, names))
    return calls


class AgainstWords(unittest.TestCase):
    def check(self, calls):
        for call, given, due in zip(calls, ask(*calls), plain_answers(calls), strict=True):
            self.assertEqual(given, due, (call, calls))

    def test_all_wants_of_one_and_two_states(self):
        for n in (1, 2):
            for wants in product(*[every_want(n, i) for i in range(n)]):
                self.check(started(wants) + every_question(n))

    def test_many_wants_of_three_states(self):
        for k, wants in enumerate(product(*[every_want(3, i) for i in range(3)])):
            if k % 17 == 0:
                self.check(started(wants) + every_question(3))

    def test_lines_of_all_sizes(self):
        chance = random.Random(20)
        for k in range(150):
            self.check(some_line(chance, ASKING + CHANGING + MOVING, 80))

    def test_lines_that_change_much_and_take_back_much(self):
        chance = random.Random(21)
        for k in range(150):
            self.check(some_line(chance, CHANGING + CHANGING + MOVING + ["jn_state", "jn_told", "jn_greatest"], 150))

    def test_lines_that_take_all_back_and_do_all_again(self):
        chance = random.Random(22)
        for k in range(60):
            calls = some_line(chance, CHANGING, chance.choice([5, 25, 40]))
            calls += [("jn_back",), ("jn_many",), ("jn_state",)] * 22
            calls += [("jn_again",), ("jn_key",), ("jn_state",)] * 22
            self.check(calls)


class WhatHolds(unittest.TestCase):
    """The rows of "What holds", on wants of five states."""

    def wants(self):
        chance = random.Random(5)
        for k in range(40):
            yield [(chance.randrange(4), chance.randrange(32) & chance.randrange(32) & ~(1 << i)) for i in range(5)]

    def answers(self, wants, name):
        calls = started(wants)
        return ask(*calls, *[(name, s) for s in range(32)])[len(calls):]

    def test_two_sets_that_hold_hold_together(self):
        for wants in self.wants():
            holding = [s for s, given in enumerate(self.answers(wants, "jn_holds")) if given[0] == 1]
            for one, other in product(holding, holding):
                self.assertIn(one | other, holding)
            self.assertEqual(ask(*started(wants), ("jn_greatest",))[-1][1], max(holding))

    def test_the_least(self):
        for wants in self.wants():
            least = ask(*started(wants), ("jn_least",))[-1][1]
            self.assertEqual(self.answers(wants, "jn_holds")[least], [1, 0])
            self.assertEqual(self.answers(wants, "jn_closed")[least], [1, 0])
            for s, given in enumerate(self.answers(wants, "jn_closed")):
                if given[0] == 1:
                    self.assertEqual(least & ~s, 0)

    def test_wanting_less_none_fewer_join(self):
        for wants in self.wants():
            less = [(max(need - 1, 0), named & 21) for need, named in wants]
            for before, behind in zip(self.answers(wants, "jn_with"), self.answers(less, "jn_with")):
                self.assertEqual(before[1] & ~behind[1], 0)

    def test_no_more_rounds_than_states_that_do_not_go_first(self):
        for wants in self.wants():
            for f, given in enumerate(self.answers(wants, "jn_rounds")):
                self.assertLessEqual(given[0], 5 - bin(f).count("1"))

    def test_whatever_order_they_join_in(self):
        chance = random.Random(7)
        for wants in self.wants():
            for f, given in enumerate(self.answers(wants, "jn_with")):
                joined = f
                ready = self.ready(wants, joined)
                while ready:
                    joined |= 1 << chance.choice(ready)
                    ready = self.ready(wants, joined)
                self.assertEqual(given[1], joined)

    def ready(self, wants, joined):
        return [
            i
            for i, (need, named) in enumerate(wants)
            if not joined >> i & 1 and bin(joined).count("1") >= need and not named & ~joined
        ]

    def test_as_few_as_can_be_go_first(self):
        for wants in self.wants():
            joining = [given[1] for given in self.answers(wants, "jn_with")]
            for g, (count, first) in enumerate(self.answers(wants, "jn_first")):
                self.assertEqual(g & ~joining[first], 0)
                enough = [bin(f).count("1") for f in range(32) if not g & ~joining[f]]
                self.assertEqual(count, min(enough))

    def test_if_one_refuses_the_greatest_without_it_is_left(self):
        for wants in self.wants():
            holding = [s for s, given in enumerate(self.answers(wants, "jn_holds")) if given[0] == 1]
            left = ask(*started(wants), *[("jn_refuses", i) for i in range(5)])[-5:]
            for i, (count, s) in enumerate(left):
                self.assertIn(s, holding)
                self.assertFalse(s >> i & 1)
                for other in holding:
                    self.assertTrue(other >> i & 1 or not other & ~s)

    def test_wanting_less_by_easier_and_pledge_none_fewer_join(self):
        asked = [("jn_with", f) for f in range(32)] + [("jn_greatest",), ("jn_least",)]
        for wants in self.wants():
            for less in [("jn_easier", i) for i in range(5)] + [("jn_pledge", s) for s in range(32)]:
                given = ask(*started(wants), *asked, less, *asked)[6:]
                for before, behind in zip(given[:34], given[35:], strict=True):
                    self.assertEqual(before[1] & ~behind[1], 0)
