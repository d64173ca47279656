"""Promise 2: jn_easier and jn_pledge."""

import unittest

from tests.lines import FAR, ask, ask_with


class Easier(unittest.TestCase):
    def test_one_fewer(self):
        given = ask(
            ("jn_start", 4),
            ("jn_want", 2, 3, 9),
            ("jn_easier", 2),
            ("jn_told", 2),
            ("jn_easier", 2),
            ("jn_told", 2),
        )
        self.assertEqual(given[2:], [[2], [2, 9], [1], [1, 9]])

    def test_need_1_and_need_0(self):
        given = ask_with([(1, 2), (0, 0)], ("jn_easier", 0), ("jn_told", 0), ("jn_easier", 0), ("jn_told", 0))
        self.assertEqual(given, [[0], [0, 2], [-33], [0, 2]])

    def test_need_0_with_and_without_named_ones(self):
        given = ask_with([(0, 6), (0, 0), (2, 0)], ("jn_easier", 0), ("jn_easier", 1), ("jn_state",))
        self.assertEqual(given, [[-33], [-33], [3, 3, 0]])

    def test_others_stay(self):
        given = ask_with([(2, 2), (3, 1), (1, 3)], ("jn_easier", 1), *[("jn_told", i) for i in range(3)])
        self.assertEqual(given, [[2], [2, 2], [2, 1], [1, 3]])

    def test_from_the_most_to_none(self):
        for n in (1, 8):
            given = ask_with([(n, 0)] * n, *[("jn_easier", n - 1)] * (n + 1))
            self.assertEqual(given, [[need] for need in range(n - 1, -1, -1)] + [[-33]])

    def test_more_join(self):
        given = ask_with([(2, 0), (2, 0), (2, 0)], ("jn_easier", 0), ("jn_easier", 0), ("jn_easier", 1), ("jn_least",))
        self.assertEqual(given, [[1], [0], [1], [3, 7]])

    def test_a_state_that_is_not_there(self):
        for n in (1, 3, 8):
            for i in (n, n + 1, 64, FAR):
                given = ask(("jn_start", n), ("jn_easier", i), ("jn_state",))
                self.assertEqual(given, [[0], [-2], [n, 0, 0]])


class Pledge(unittest.TestCase):
    def test_they_want_nothing(self):
        given = ask_with([(2, 2), (3, 1), (1, 3)], ("jn_pledge", 5), *[("jn_told", i) for i in range(3)])
        self.assertEqual(given, [[2], [0, 0], [3, 1], [0, 0]])

    def test_some_want_nothing_already(self):
        given = ask_with([(0, 0), (3, 1), (0, 0)], ("jn_pledge", 7), *[("jn_told", i) for i in range(3)])
        self.assertEqual(given, [[1], [0, 0], [0, 0], [0, 0]])

    def test_one_wants_only_named_ones(self):
        given = ask_with([(0, 2), (0, 0), (1, 0)], ("jn_pledge", 3), ("jn_told", 0), ("jn_told", 2))
        self.assertEqual(given, [[1], [0, 0], [1, 0]])

    def test_one_wants_only_so_many(self):
        self.assertEqual(ask_with([(1, 0), (0, 0)], ("jn_pledge", 3), ("jn_told", 0)), [[1], [0, 0]])

    def test_all_of_eight(self):
        wants = [(8, 254)] + [(i, 1) for i in range(7)]
        given = ask_with(wants, ("jn_pledge", 255), *[("jn_told", i) for i in range(8)], ("jn_pledge", 255))
        self.assertEqual(given, [[8]] + [[0, 0]] * 8 + [[-17]])

    def test_all_want_nothing_already(self):
        given = ask_with([(0, 0), (1, 0), (0, 0)], ("jn_pledge", 5), ("jn_pledge", 1), ("jn_state",), ("jn_told", 1))
        self.assertEqual(given, [[-17], [-17], [3, 3, 0], [1, 0]])
        self.assertEqual(ask(("jn_start", 1), ("jn_pledge", 1)), [[0], [-17]])

    def test_the_empty_set(self):
        given = ask_with([(2, 2), (1, 0)], ("jn_pledge", 0), ("jn_state",), ("jn_told", 0))
        self.assertEqual(given, [[-17], [2, 2, 0], [2, 2]])
        self.assertEqual(ask(("jn_start", 8), ("jn_pledge", 0)), [[0], [-17]])

    def test_no_set(self):
        for n in (1, 3, 8):
            for s in (1 << n, (1 << n) + 1, 1 << 31, FAR):
                # Where all of them want nothing already -17 would be due as well.
                for need in (0, 1):
                    given = ask_with([(need, 0)] * n, ("jn_pledge", s), ("jn_state",), ("jn_told", 0))
                    self.assertEqual(given, [[-22], [n, n, 0], [need, 0]])

    def test_it_is_one_change(self):
        given = ask_with(
            [(2, 2), (3, 1), (0, 3)],
            ("jn_pledge", 7),
            ("jn_state",),
            ("jn_back",),
            *[("jn_told", i) for i in range(3)],
            ("jn_again",),
            *[("jn_told", i) for i in range(3)],
        )
        self.assertEqual(given, [[3], [3, 4, 0], [3], [2, 2], [3, 1], [0, 3], [0], [0, 0], [0, 0], [0, 0]])
