"""Promise 3: jn_many, jn_nth and jn_around."""

import unittest

from tests.lines import FAR, ask, ask_with

# State 0 joins unasked, 1 behind it, 2 wants 1 and 3, 3 wants 2: 0, 1, 3 and 15 hold.
MIXED = [(0, 0), (1, 1), (0, 10), (0, 4)]

# Nobody stirs, though all would be content together.
CAUTIOUS = [(2, 0), (2, 0), (2, 0)]

# Each wants one other, whoever it is: all but the sets of one state hold.
ANY_OTHER = [(1, 0)] * 4


class Many(unittest.TestCase):
    def test_how_many_hold_and_how_many_are_closed_too(self):
        # Of 0, 1, 3 and 15 the sets 3 and 15 are closed.
        self.assertEqual(ask_with(MIXED, ("jn_many",)), [[4, 2]])
        self.assertEqual(ask_with(CAUTIOUS, ("jn_many",)), [[2, 2]])
        self.assertEqual(ask_with(ANY_OTHER, ("jn_many",)), [[12, 2]])

    def test_only_the_empty_set_holds(self):
        for n in (1, 3, 8):
            self.assertEqual(ask_with([(n, 0)] * n, ("jn_many",)), [[1, 1]])

    def test_every_set_holds(self):
        for n in (1, 3, 8):
            self.assertEqual(ask(("jn_start", n), ("jn_many",)), [[0], [2 ** n, 1]])

    def test_sets_that_are_closed_alone_are_not_counted(self):
        # 0 and each set of one state are closed, and 7; only 0 and 7 hold.
        closed = [given for given in ask_with(CAUTIOUS, *[("jn_closed", s) for s in range(8)]) if given[0] == 1]
        self.assertEqual(len(closed), 5)
        self.assertEqual(ask_with(CAUTIOUS, ("jn_many",)), [[2, 2]])


class Nth(unittest.TestCase):
    def test_as_their_numbers_rise(self):
        given = ask_with(MIXED, *[("jn_nth", k) for k in range(5)])
        self.assertEqual(given, [[0, 0], [1, 1], [2, 3], [4, 15], [-33]])

    def test_their_numbers_and_not_their_sizes_rise(self):
        given = ask_with([(0, 0), (0, 1), (0, 0)], *[("jn_nth", k) for k in range(7)])
        self.assertEqual(given, [[0, 0], [1, 1], [2, 3], [1, 4], [2, 5], [3, 7], [-33]])

    def test_only_the_empty_set_holds(self):
        for n in (1, 3, 8):
            given = ask_with([(n, 0)] * n, ("jn_nth", 0), ("jn_nth", 1), ("jn_nth", FAR))
            self.assertEqual(given, [[0, 0], [-33], [-33]])

    def test_every_set_holds(self):
        for n in (1, 3, 8):
            last = 2 ** n - 1
            given = ask(("jn_start", n), *[("jn_nth", k) for k in (0, 1, last, last + 1, FAR)])
            self.assertEqual(given, [[0], [0, 0], [1, 1], [n, last], [-33], [-33]])

    def test_far_behind_the_last(self):
        for k in (12, 255, 256, 1 << 31, FAR - 1, FAR):
            self.assertEqual(ask_with(ANY_OTHER, ("jn_nth", 11), ("jn_nth", k)), [[4, 15], [-33]])


class Around(unittest.TestCase):
    def test_the_fewest(self):
        given = ask_with(MIXED, *[("jn_around", i) for i in range(4)])
        self.assertEqual(given, [[1, 1], [2, 3], [4, 15], [4, 15]])

    def test_of_like_size_the_least_number(self):
        given = ask_with(ANY_OTHER, *[("jn_around", i) for i in range(4)])
        self.assertEqual(given, [[2, 3], [2, 3], [2, 5], [2, 9]])
        wants = [(0, 0), (0, 0), (0, 0), (0, 0), (2, 0)]
        self.assertEqual(ask_with(wants, ("jn_around", 4)), [[3, 19]])

    def test_fewer_goes_ahead_of_a_less_number(self):
        # Around 0 the set 15 has a less number than 17, and more states.
        wants = [(1, 0), (0, 13), (0, 11), (0, 7), (1, 0)]
        given = ask_with(wants, ("jn_holds", 15), ("jn_holds", 17), ("jn_around", 0))
        self.assertEqual(given, [[1, 0], [1, 0], [2, 17]])

    def test_all_of_eight(self):
        given = ask_with([(7, 0)] * 8, *[("jn_around", i) for i in range(8)])
        self.assertEqual(given, [[8, 255]] * 8)

    def test_alone(self):
        for n in (1, 3, 8):
            given = ask(("jn_start", n), *[("jn_around", i) for i in range(n)])
            self.assertEqual(given[1:], [[1, 1 << i] for i in range(n)])

    def test_in_no_set_that_holds(self):
        for n in (1, 3, 8):
            given = ask_with([(n, 0)] * n, *[("jn_around", i) for i in range(n)])
            self.assertEqual(given, [[-33]] * n)
        self.assertEqual(ask_with([(0, 0), (2, 0)], ("jn_around", 0), ("jn_around", 1)), [[1, 1], [-33]])

    def test_a_state_that_is_not_there(self):
        for n in (1, 3, 8):
            for i in (n, n + 1, 64, FAR):
                # With no set that holds but the empty one -33 would be due as well.
                for need in (0, n):
                    self.assertEqual(ask_with([(need, 0)] * n, ("jn_around", i)), [[-2]])
