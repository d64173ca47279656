"""Promise 4: jn_refuses and jn_key."""

import unittest

from tests.lines import FAR, ask, ask_with

# 0 wants nothing, 1 wants 0, 2 wants 1, 3 wants 2.
CHAIN = [(0, 0), (0, 1), (0, 2), (0, 4)]

# 0 and 1 want one another, 2 and 3 want one another, 4 is in no set that holds.
PAIRS = [(0, 2), (0, 1), (0, 8), (0, 4), (5, 0)]


class Refuses(unittest.TestCase):
    def test_those_behind_it_fall_away(self):
        given = ask_with(CHAIN, *[("jn_refuses", i) for i in range(4)])
        self.assertEqual(given, [[0, 0], [1, 1], [2, 3], [3, 7]])

    def test_those_who_need_so_many_fall_away(self):
        given = ask_with([(0, 0), (1, 0), (2, 0), (3, 0)], *[("jn_refuses", i) for i in range(4)])
        self.assertEqual(given, [[0, 0], [1, 1], [2, 3], [3, 7]])

    def test_others_stay(self):
        given = ask_with(PAIRS, *[("jn_refuses", i) for i in range(4)])
        self.assertEqual(given, [[2, 12], [2, 12], [2, 3], [2, 3]])

    def test_a_state_in_no_set_that_holds(self):
        self.assertEqual(ask_with(PAIRS, ("jn_refuses", 4), ("jn_greatest",)), [[4, 15], [4, 15]])
        self.assertEqual(ask_with([(8, 0)] * 8, ("jn_refuses", 7), ("jn_refuses", 0)), [[0, 0], [0, 0]])
        self.assertEqual(ask_with([(1, 0)], ("jn_refuses", 0)), [[0, 0]])

    def test_every_set_holds(self):
        for n in (1, 3, 8):
            given = ask(("jn_start", n), *[("jn_refuses", i) for i in range(n)])
            self.assertEqual(given[1:], [[n - 1, (1 << n) - 1 - (1 << i)] for i in range(n)])

    def test_it_changes_nothing(self):
        given = ask_with(CHAIN, ("jn_state",), ("jn_refuses", 0), ("jn_state",), ("jn_greatest",), ("jn_told", 0))
        self.assertEqual(given, [[4, 4, 0], [0, 0], [4, 4, 0], [4, 15], [0, 0]])

    def test_a_state_that_is_not_there(self):
        for n in (1, 3, 8):
            for i in (n, n + 1, 64, FAR):
                self.assertEqual(ask(("jn_start", n), ("jn_refuses", i)), [[0], [-2]])


class Key(unittest.TestCase):
    def test_whose_refusal_leaves_the_fewest(self):
        self.assertEqual(ask_with(CHAIN, ("jn_key",)), [[0, 0]])
        self.assertEqual(ask_with([(0, 0), (0, 0), (0, 8), (0, 0)], ("jn_key",)), [[3, 2]])
        self.assertEqual(ask_with([(0, 128)] * 7 + [(0, 0)], ("jn_key",)), [[7, 0]])

    def test_of_like_ones_the_least(self):
        self.assertEqual(ask_with(PAIRS, ("jn_key",)), [[0, 2]])
        self.assertEqual(ask_with([(0, 0), (0, 4), (0, 2), (0, 16), (0, 8)], ("jn_key",)), [[1, 3]])
        for n in (1, 3, 8):
            self.assertEqual(ask(("jn_start", n), ("jn_key",)), [[0], [0, n - 1]])

    def test_only_of_those_in_the_greatest(self):
        # The refusal of 0, in no set that holds, leaves two as well.
        self.assertEqual(ask_with([(3, 0), (0, 4), (0, 2)], ("jn_key",)), [[1, 0]])
        self.assertEqual(ask_with([(4, 0), (4, 0), (0, 0), (0, 0)], ("jn_key",)), [[2, 1]])

    def test_nobody_is_in_the_greatest(self):
        for n in (1, 3, 8):
            self.assertEqual(ask_with([(n, 0)] * n, ("jn_key",), ("jn_greatest",)), [[-33], [0, 0]])
        self.assertEqual(ask_with([(0, 2), (2, 0)], ("jn_key",)), [[-33]])

    def test_one_is(self):
        self.assertEqual(ask_with([(8, 0)] * 7 + [(0, 0)], ("jn_key",)), [[7, 0]])
