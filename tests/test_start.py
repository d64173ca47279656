"""Promise 1: jn_start."""

import unittest

from tests.lines import FAR, ask


class Start(unittest.TestCase):
    def test_one_to_eight_states(self):
        for n in range(1, 9):
            self.assertEqual(ask(("jn_start", n)), [[0]])

    def test_refused_number_of_states(self):
        for n in (0, 9, 10, 255, 256, FAR):
            self.assertEqual(ask(("jn_start", n)), [[-22]])

    def test_each_wants_nothing(self):
        for n in (1, 2, 8):
            told = ask(("jn_start", n), *[("jn_told", i) for i in range(n + 1)])
            self.assertEqual(told, [[0]] + [[0, 0]] * n + [[-2]])

    def test_refused_ahead_of_the_first(self):
        given = ask(("jn_start", 0), ("jn_start", 9), ("jn_start", FAR), ("jn_start", 3), ("jn_told", 2), ("jn_told", 3))
        self.assertEqual(given, [[-22], [-22], [-22], [0], [0, 0], [-2]])

    def test_refused_behind_it_all_stays(self):
        given = ask(
            ("jn_start", 3),
            ("jn_want", 1, 2, 4),
            ("jn_start", 0),
            ("jn_start", 9),
            ("jn_start", FAR),
            ("jn_told", 1),
            ("jn_told", 2),
            ("jn_told", 3),
        )
        self.assertEqual(given[2:], [[-22], [-22], [-22], [2, 4], [0, 0], [-2]])

    def test_again_all_wants_are_nothing(self):
        given = ask(
            ("jn_start", 3),
            ("jn_want", 0, 3, 6),
            ("jn_want", 2, 1, 1),
            ("jn_start", 3),
            ("jn_told", 0),
            ("jn_told", 2),
            ("jn_least",),
        )
        self.assertEqual(given[3:], [[0], [0, 0], [0, 0], [3, 7]])

    def test_again_with_more_and_with_fewer_states(self):
        given = ask(
            ("jn_start", 2),
            ("jn_holds", 4),
            ("jn_start", 8),
            ("jn_holds", 255),
            ("jn_told", 7),
            ("jn_start", 1),
            ("jn_holds", 1),
            ("jn_holds", 2),
            ("jn_told", 1),
        )
        self.assertEqual(given, [[0], [-22], [0], [1, 0], [0, 0], [0], [1, 0], [-22], [-2]])

    def test_again_there_are_no_changes(self):
        given = ask(
            ("jn_start", 3),
            ("jn_want", 0, 3, 6),
            ("jn_want", 2, 1, 1),
            ("jn_easier", 0),
            ("jn_back",),
            ("jn_state",),
            ("jn_start", 3),
            ("jn_state",),
            ("jn_back",),
            ("jn_again",),
            ("jn_told", 0),
            ("jn_told", 2),
        )
        self.assertEqual(given[4:], [[2], [3, 2, 1], [0], [3, 0, 0], [-2], [-2], [0, 0], [0, 0]])

    def test_refused_behind_changes_they_stay(self):
        for n in (0, 9, FAR):
            given = ask(
                ("jn_start", 3),
                ("jn_want", 0, 3, 6),
                ("jn_want", 2, 1, 1),
                ("jn_back",),
                ("jn_start", n),
                ("jn_state",),
                ("jn_told", 0),
                ("jn_again",),
                ("jn_told", 2),
                ("jn_start", n),
                ("jn_back",),
                ("jn_back",),
                ("jn_back",),
            )
            self.assertEqual(given[4:], [[-22], [3, 1, 1], [3, 6], [0], [1, 1], [-22], [1], [0], [-2]])
