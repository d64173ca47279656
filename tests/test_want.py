"""Promise 2: jn_want and jn_told."""

import unittest

from tests.lines import FAR, ask


class WantAndTold(unittest.TestCase):
    def test_what_was_wanted_before_is_answered(self):
        given = ask(
            ("jn_start", 4),
            ("jn_want", 2, 3, 9),
            ("jn_want", 2, 1, 2),
            ("jn_want", 2, 1, 2),
            ("jn_want", 2, 0, 0),
            ("jn_told", 2),
        )
        self.assertEqual(given, [[0], [0, 0], [3, 9], [1, 2], [1, 2], [0, 0]])

    def test_each_state_has_its_own(self):
        given = ask(
            ("jn_start", 3),
            ("jn_want", 0, 1, 6),
            ("jn_want", 1, 2, 5),
            ("jn_want", 2, 3, 0),
            ("jn_told", 0),
            ("jn_told", 1),
            ("jn_told", 2),
            ("jn_told", 0),
        )
        self.assertEqual(given[4:], [[1, 6], [2, 5], [3, 0], [1, 6]])

    def test_the_widest_wants(self):
        given = ask(("jn_start", 8), ("jn_want", 7, 8, 127), ("jn_told", 7), ("jn_want", 0, 8, 254), ("jn_told", 0))
        self.assertEqual(given, [[0], [0, 0], [8, 127], [0, 0], [8, 254]])
        self.assertEqual(ask(("jn_start", 1), ("jn_want", 0, 1, 0), ("jn_told", 0)), [[0], [0, 0], [1, 0]])

    def refused(self, n, i, need, named, number):
        given = ask(
            ("jn_start", n),
            ("jn_want", 0, 1, 0),
            ("jn_want", i, need, named),
            *[("jn_told", k) for k in range(n)],
        )
        self.assertEqual(given[2], [number])
        self.assertEqual(given[3:], [[1, 0]] + [[0, 0]] * (n - 1))

    def test_a_state_that_is_not_there(self):
        for n in (1, 3, 8):
            for i in (n, n + 1, 32, 64, FAR):
                self.refused(n, i, 0, 0, -2)
                self.assertEqual(ask(("jn_start", n), ("jn_told", i)), [[0], [-2]])

    def test_need_above_n(self):
        for n in (1, 3, 8):
            for need in (n + 1, 9, 255, FAR):
                self.refused(n, 0, need, 0, -22)

    def test_named_is_no_set(self):
        for n in (1, 3, 8):
            for named in (1 << n, (1 << n) + 2, 1 << 31, FAR - 1, FAR):
                self.refused(n, 0, 0, named, -22)

    def test_a_state_names_itself(self):
        self.refused(1, 0, 0, 1, -22)
        self.refused(3, 1, 0, 2, -22)
        self.refused(3, 1, 3, 7, -22)
        self.refused(8, 7, 0, 255, -22)

    def test_a_missing_state_is_told_first(self):
        self.refused(3, 3, 4, 0, -2)
        self.refused(3, 3, 0, 8, -2)
        self.refused(3, 3, FAR, FAR, -2)
        self.refused(8, FAR, FAR, FAR, -2)

    def test_refusals_do_not_hinder_what_comes_behind(self):
        given = ask(("jn_start", 2), ("jn_want", 0, 3, 0), ("jn_want", 0, 2, 2), ("jn_want", 1, 0, 2), ("jn_told", 0))
        self.assertEqual(given, [[0], [-22], [0, 0], [-22], [2, 2]])
