"""Promise 5: jn_least, jn_with, jn_round, jn_rounds and jn_first."""

import unittest

from tests.lines import FAR, ask, ask_with

# Each needs as many others as its number tells: all join, one a round.
STAIRS = [(i, 0) for i in range(8)]

# Nobody stirs, though all would be content together.
CAUTIOUS = [(2, 0), (2, 0), (2, 0)]

NEVER = [(4, 0)] * 4


class Least(unittest.TestCase):
    def test_one_behind_another(self):
        self.assertEqual(ask_with(STAIRS, ("jn_least",)), [[8, 255]])

    def test_it_stops_at_a_gap(self):
        self.assertEqual(ask_with([(0, 0), (1, 0), (3, 0), (2, 4)], ("jn_least",)), [[2, 3]])

    def test_nobody_stirs(self):
        self.assertEqual(ask_with(CAUTIOUS, ("jn_least",)), [[0, 0]])

    def test_one_state(self):
        self.assertEqual(ask_with([(0, 0)], ("jn_least",)), [[1, 1]])
        self.assertEqual(ask_with([(1, 0)], ("jn_least",)), [[0, 0]])


class With(unittest.TestCase):
    def test_whoever_goes_first_has_joined_whatever_it_wants(self):
        given = ask_with(NEVER, *[("jn_with", f) for f in (0, 1, 10, 15)])
        self.assertEqual(given, [[0, 0], [1, 1], [2, 10], [4, 15]])

    def test_others_behind_them(self):
        given = ask_with(CAUTIOUS, ("jn_with", 0), ("jn_with", 2), ("jn_with", 5), ("jn_with", 7))
        self.assertEqual(given, [[0, 0], [1, 2], [3, 7], [3, 7]])

    def test_named_ones(self):
        wants = [(0, 2), (0, 4), (0, 8), (1, 0)]
        given = ask_with(wants, ("jn_with", 0), ("jn_with", 1), ("jn_with", 8), ("jn_with", 4))
        self.assertEqual(given, [[0, 0], [4, 15], [4, 15], [4, 15]])

    def test_no_set(self):
        for n in (1, 3, 8):
            for f in (1 << n, (1 << n) + 1, FAR):
                given = ask(("jn_start", n), ("jn_with", f), ("jn_rounds", f), ("jn_first", f), ("jn_round", f, 0))
                self.assertEqual(given, [[0], [-22], [-22], [-22], [-22]])


class Rounds(unittest.TestCase):
    def test_one_a_round(self):
        given = ask_with(STAIRS, ("jn_rounds", 0), *[("jn_round", 0, i) for i in range(8)])
        self.assertEqual(given, [[8]] + [[i + 1] for i in range(8)])

    def test_those_who_go_first_join_in_round_0(self):
        given = ask_with(STAIRS, ("jn_rounds", 131), *[("jn_round", 131, i) for i in range(8)])
        self.assertEqual(given, [[3], [0], [0], [1], [1], [2], [2], [3], [0]])

    def test_all_at_once(self):
        given = ask_with([(0, 0), (0, 0), (2, 0), (2, 0)], ("jn_rounds", 0), *[("jn_round", 0, i) for i in range(4)])
        self.assertEqual(given, [[2], [1], [1], [2], [2]])

    def test_round_0_is_not_counted(self):
        self.assertEqual(ask_with(NEVER, ("jn_rounds", 0), ("jn_rounds", 6), ("jn_rounds", 15)), [[0], [0], [0]])
        self.assertEqual(ask_with([(0, 0)], ("jn_rounds", 0), ("jn_rounds", 1)), [[1], [0]])

    def test_a_state_that_never_joins(self):
        given = ask_with(NEVER, ("jn_round", 0, 0), ("jn_round", 11, 2), ("jn_round", 4, 2))
        self.assertEqual(given, [[-33], [-33], [0]])

    def test_a_state_that_is_not_there(self):
        for n in (1, 3, 8):
            for i in (n, 64, FAR):
                self.assertEqual(ask(("jn_start", n), ("jn_round", 0, i)), [[0], [-2]])

    def test_a_missing_state_is_told_first(self):
        given = ask(("jn_start", 3), ("jn_round", 8, 3), ("jn_round", FAR, FAR), ("jn_round", 8, 2))
        self.assertEqual(given, [[0], [-2], [-2], [-22]])

    def test_no_set_is_told_ahead_of_not_joining(self):
        given = ask_with(NEVER, ("jn_round", 16, 0), ("jn_round", 17, 0))
        self.assertEqual(given, [[-22], [-22]])


class First(unittest.TestCase):
    def test_nobody_need_go_first(self):
        self.assertEqual(ask_with(STAIRS, ("jn_first", 255), ("jn_first", 0)), [[0, 0], [0, 0]])
        self.assertEqual(ask_with(NEVER, ("jn_first", 0)), [[0, 0]])

    def test_all_of_them_must(self):
        self.assertEqual(ask_with(NEVER, ("jn_first", 15), ("jn_first", 10)), [[4, 15], [2, 10]])
        self.assertEqual(ask_with([(8, 0)] * 8, ("jn_first", 255)), [[8, 255]])
        self.assertEqual(ask_with([(1, 0)], ("jn_first", 1)), [[1, 1]])

    def test_of_like_size_the_least_number(self):
        self.assertEqual(ask_with(CAUTIOUS, ("jn_first", 7), ("jn_first", 6), ("jn_first", 4)), [[2, 3], [2, 3], [1, 4]])
        ring = [(0, 8), (0, 1), (0, 2), (0, 4)]
        self.assertEqual(ask_with(ring, ("jn_first", 8), ("jn_first", 15)), [[1, 1], [1, 1]])

    def test_one_outside_may_draw_more_along(self):
        wants = [(0, 8), (0, 8), (0, 8), (4, 0)]
        self.assertEqual(ask_with(wants, ("jn_first", 7), ("jn_first", 3), ("jn_first", 1)), [[1, 8], [1, 8], [1, 1]])

    def test_fewer_goes_ahead_of_a_less_number(self):
        wants = [(5, 0), (5, 0), (0, 16), (0, 16), (5, 0)]
        self.assertEqual(ask_with(wants, ("jn_first", 12)), [[1, 16]])
