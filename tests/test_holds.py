"""Promises 3 and 4: jn_holds, jn_closed and jn_greatest."""

import unittest

from tests.lines import FAR, ask, ask_with

# State 0 joins unasked, 1 behind it, 2 wants 1 and 3, 3 wants 2.
MIXED = [(0, 0), (1, 1), (0, 10), (0, 4)]

# Nobody stirs, though all would be content together.
CAUTIOUS = [(2, 0), (2, 0), (2, 0)]


class Holds(unittest.TestCase):
    def test_the_first_whose_want_is_not_met(self):
        given = ask_with(MIXED, *[("jn_holds", s) for s in (1, 2, 3, 6, 7, 12, 14, 15, 8)])
        self.assertEqual(given, [[1, 0], [0, 2], [1, 0], [0, 2], [0, 3], [0, 3], [0, 2], [1, 0], [0, 4]])

    def test_the_empty_set_holds(self):
        for wants in ([(1, 0)], MIXED, CAUTIOUS, [(8, 0)] * 8):
            self.assertEqual(ask_with(wants, ("jn_holds", 0)), [[1, 0]])

    def test_the_set_of_all(self):
        self.assertEqual(ask_with(CAUTIOUS, ("jn_holds", 7)), [[1, 0]])
        self.assertEqual(ask_with([(7, 0)] * 8, ("jn_holds", 255)), [[1, 0]])
        self.assertEqual(ask_with([(7, 0)] * 7 + [(8, 0)], ("jn_holds", 255)), [[0, 8]])

    def test_a_state_is_not_one_of_the_others(self):
        self.assertEqual(ask_with([(1, 0)], ("jn_holds", 1)), [[0, 1]])
        self.assertEqual(ask_with([(2, 0), (0, 0), (0, 0)], ("jn_holds", 3), ("jn_holds", 7)), [[0, 1], [1, 0]])

    def test_need_and_named_both_count(self):
        given = ask_with([(2, 2), (0, 0), (0, 0), (0, 0)], *[("jn_holds", s) for s in (3, 13, 7, 11)])
        self.assertEqual(given, [[0, 1], [0, 1], [1, 0], [1, 0]])

    def test_no_set(self):
        for n in (1, 3, 8):
            for s in (1 << n, (1 << n) + 1, 1 << 31, FAR):
                self.assertEqual(ask(("jn_start", n), ("jn_holds", s), ("jn_closed", s)), [[0], [-22], [-22]])


class Closed(unittest.TestCase):
    def test_the_first_outside_whose_want_is_met(self):
        given = ask_with(MIXED, *[("jn_closed", s) for s in (0, 1, 3, 4, 7, 8, 15, 14)])
        self.assertEqual(given, [[0, 1], [0, 2], [1, 0], [0, 1], [0, 4], [0, 1], [1, 0], [0, 1]])

    def test_the_empty_set(self):
        self.assertEqual(ask_with(CAUTIOUS, ("jn_closed", 0)), [[1, 0]])
        self.assertEqual(ask_with([(1, 0)] * 7 + [(0, 0)], ("jn_closed", 0)), [[0, 8]])

    def test_the_set_of_all_is_closed(self):
        for n in (1, 3, 8):
            self.assertEqual(ask_with([(n, 0)] * n, ("jn_closed", (1 << n) - 1)), [[1, 0]])
            self.assertEqual(ask_with([(0, 0)] * n, ("jn_closed", (1 << n) - 1)), [[1, 0]])

    def test_closed_is_not_the_same_as_holds(self):
        wants = [(2, 0), (2, 0), (2, 0), (4, 0)]
        given = ask_with(wants, ("jn_holds", 1), ("jn_closed", 1), ("jn_holds", 7), ("jn_closed", 7), ("jn_closed", 3))
        self.assertEqual(given, [[0, 1], [1, 0], [1, 0], [1, 0], [0, 3]])

    def test_need_of_all_is_never_met(self):
        self.assertEqual(ask_with([(3, 0), (0, 0), (0, 0)], ("jn_closed", 6)), [[1, 0]])
        self.assertEqual(ask_with([(2, 0), (0, 0), (0, 0)], ("jn_closed", 6)), [[0, 1]])


class Greatest(unittest.TestCase):
    def test_nobody_need_stir(self):
        self.assertEqual(ask_with(CAUTIOUS, ("jn_greatest",), ("jn_least",)), [[3, 7], [0, 0]])

    def test_one_state(self):
        self.assertEqual(ask_with([(0, 0)], ("jn_greatest",)), [[1, 1]])
        self.assertEqual(ask_with([(1, 0)], ("jn_greatest",)), [[0, 0]])

    def test_eight_states(self):
        self.assertEqual(ask_with([(7, 0)] * 8, ("jn_greatest",)), [[8, 255]])
        self.assertEqual(ask_with([(7, 0)] * 7 + [(8, 0)], ("jn_greatest",)), [[0, 0]])

    def test_one_after_another_falls_away(self):
        chain = [(0, 2), (0, 4), (0, 8), (5, 0), (0, 0)]
        self.assertEqual(ask_with(chain, ("jn_greatest",)), [[1, 16]])

    def test_part_of_them(self):
        self.assertEqual(ask_with([(0, 2), (0, 1), (4, 0), (1, 0)], ("jn_greatest",)), [[3, 11]])

    def test_it_follows_the_wants(self):
        given = ask(
            ("jn_start", 2),
            ("jn_greatest",),
            ("jn_want", 0, 2, 0),
            ("jn_greatest",),
            ("jn_want", 1, 0, 1),
            ("jn_greatest",),
            ("jn_want", 0, 1, 2),
            ("jn_greatest",),
        )
        self.assertEqual(given, [[0], [2, 3], [0, 0], [1, 2], [0, 0], [0, 0], [2, 0], [2, 3]])
