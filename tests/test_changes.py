"""Promises 1 and 6: what a change is, jn_back, jn_again and jn_state."""

import unittest

from tests.lines import FAR, ask, ask_with, every_question, started

WANTS = [(2, 6), (0, 1), (3, 0), (1, 4)]

CHANGES = (
    ("jn_want", 0, 1, 8),
    ("jn_want", 3, 4, 7),
    ("jn_want", 1, 0, 1),
    ("jn_easier", 2),
    ("jn_easier", 3),
    ("jn_pledge", 1),
    ("jn_pledge", 15),
    ("jn_pledge", 10),
)

# On WANTS, each of these is refused.
REFUSED = (
    ("jn_start", 0),
    ("jn_start", 9),
    ("jn_want", 4, 0, 0),
    ("jn_want", 0, 5, 0),
    ("jn_want", 0, 0, 16),
    ("jn_want", 0, 0, 1),
    ("jn_told", 4),
    ("jn_holds", 16),
    ("jn_closed", 16),
    ("jn_with", 16),
    ("jn_round", 0, 4),
    ("jn_round", 16, 0),
    ("jn_round", 0, 0),
    ("jn_rounds", 16),
    ("jn_first", 16),
    ("jn_nth", FAR),
    ("jn_around", 4),
    ("jn_refuses", 4),
    ("jn_easier", 1),
    ("jn_easier", 4),
    ("jn_pledge", 0),
    ("jn_pledge", 16),
    ("jn_pledge", FAR),
)


def one_another(count):
    """So many changes of one state of three, each to another want than the one before."""
    return [("jn_want", 0, k % 4, 2 * (k // 4 % 4)) for k in range(1, count + 1)]


def wanted(k):
    """What the state wants behind so many of these."""
    return [k % 4, 2 * (k // 4 % 4)]


class State(unittest.TestCase):
    def test_at_the_start(self):
        for n in range(1, 9):
            given = ask(("jn_start", n), ("jn_state",), ("jn_back",), ("jn_again",), ("jn_state",))
            self.assertEqual(given, [[0], [n, 0, 0], [-2], [-2], [n, 0, 0]])

    def test_changes_taken_back_and_done_again(self):
        given = ask(
            ("jn_start", 3),
            ("jn_want", 0, 2, 6),
            ("jn_state",),
            ("jn_easier", 0),
            ("jn_state",),
            ("jn_pledge", 3),
            ("jn_state",),
            ("jn_back",),
            ("jn_state",),
            ("jn_back",),
            ("jn_state",),
            ("jn_again",),
            ("jn_state",),
        )
        self.assertEqual(given[2::2], [[3, 1, 0], [3, 2, 0], [3, 3, 0], [3, 2, 1], [3, 1, 2], [3, 2, 1]])

    def test_each_kind_of_change_is_one(self):
        for change in CHANGES:
            self.assertEqual(ask_with(WANTS, change, ("jn_state",))[1], [4, 5, 0], change)

    def test_a_want_just_as_it_was_is_a_change(self):
        given = ask_with(WANTS, ("jn_want", 0, 2, 6), ("jn_state",), ("jn_back",), ("jn_state",), ("jn_told", 0))
        self.assertEqual(given, [[2, 6], [4, 5, 0], [4], [4, 4, 1], [2, 6]])
        self.assertEqual(ask(("jn_start", 1), ("jn_want", 0, 0, 0), ("jn_state",)), [[0], [0, 0], [1, 1, 0]])


class BackAndAgain(unittest.TestCase):
    def test_how_many_can_still_be(self):
        calls = [("jn_start", 3)] + one_another(4)
        given = ask(*calls, *[("jn_back",)] * 5, *[("jn_again",)] * 5, ("jn_back",))[5:]
        self.assertEqual(given[:5], [[3], [2], [1], [0], [-2]])
        self.assertEqual(given[5:], [[3], [2], [1], [0], [-2], [3]])

    def test_the_last_change_goes_first(self):
        given = ask(
            ("jn_start", 3),
            ("jn_want", 0, 2, 6),
            ("jn_want", 1, 1, 1),
            ("jn_easier", 0),
            ("jn_pledge", 2),
            ("jn_back",),
            ("jn_told", 1),
            ("jn_back",),
            ("jn_told", 0),
            ("jn_back",),
            ("jn_told", 1),
            ("jn_again",),
            ("jn_told", 1),
            ("jn_told", 0),
            ("jn_again",),
            ("jn_told", 0),
        )
        self.assertEqual(given[5:11], [[3], [1, 1], [2], [2, 6], [1], [0, 0]])
        self.assertEqual(given[11:], [[2], [1, 1], [2, 6], [1], [1, 6]])

    def test_the_last_twenty(self):
        for count in (19, 20, 21, 22, 25, 40, 60):
            can = min(count, 20)
            calls = [("jn_start", 3)] + one_another(count)
            calls += [("jn_state",)] + [("jn_back",), ("jn_told", 0)] * can
            calls += [("jn_back",), ("jn_state",), ("jn_told", 0)]
            given = ask(*calls)[count + 1:]
            due = [[3, can, 0]]
            for k in range(1, can + 1):
                due += [[can - k], wanted(count - k)]
            due += [[-2], [3, 0, can], wanted(count - can)]
            self.assertEqual(given, due, count)

    def test_all_of_them_done_again(self):
        for count in (19, 20, 21, 40):
            can = min(count, 20)
            calls = [("jn_start", 3)] + one_another(count) + [("jn_back",)] * can
            before = len(calls)
            calls += [("jn_again",), ("jn_told", 0)] * can
            calls += [("jn_again",), ("jn_state",)]
            due = []
            for k in range(1, can + 1):
                due += [[can - k], wanted(count - can + k)]
            due += [[-2], [3, can, 0]]
            self.assertEqual(ask(*calls)[before:], due, count)

    def test_what_is_out_of_reach_stays_so(self):
        # Of 25 the first 5 can't be taken back, with 3 taken back and another change made either.
        calls = [("jn_start", 3)] + one_another(25) + [("jn_back",)] * 3 + [("jn_want", 1, 1, 0)]
        before = len(calls)
        calls += [("jn_state",)] + [("jn_back",)] * 19 + [("jn_told", 0), ("jn_state",)]
        given = ask(*calls)[before:]
        self.assertEqual(given[0], [3, 18, 0])
        self.assertEqual(given[1:20], [[k] for k in range(17, -1, -1)] + [[-2]])
        self.assertEqual(given[20:], [wanted(5), [3, 0, 18]])

    def test_none_done_again_behind_another_change(self):
        for change in CHANGES:
            calls = started(WANTS) + [("jn_want", 0, 2, 6), ("jn_want", 0, 2, 6), ("jn_back",), ("jn_back",), change]
            given = ask(*calls, ("jn_state",), ("jn_again",), ("jn_state",), ("jn_back",), ("jn_again",))
            self.assertEqual(given[len(calls):], [[4, 5, 0], [-2], [4, 5, 0], [4], [0]], change)

    def test_a_want_just_as_it_is_ends_it_too(self):
        given = ask_with(WANTS, ("jn_back",), ("jn_want", 0, 2, 6), ("jn_again",), ("jn_state",), ("jn_told", 3))
        self.assertEqual(given, [[3], [2, 6], [-2], [4, 4, 0], [0, 0]])

    def test_refused_calls_make_no_change_and_take_nothing_away(self):
        for call in REFUSED:
            before = [("jn_want", 1, 4, 4), ("jn_want", 3, 2, 1), ("jn_back",), ("jn_back",)]
            behind = [("jn_state",), *[("jn_told", i) for i in range(4)], ("jn_again",), ("jn_again",), ("jn_told", 3)]
            given = ask_with(WANTS, *before, call, *behind)[4:]
            self.assertEqual(len(given[0]), 1, call)
            self.assertLess(given[0][0], 0, call)
            self.assertEqual(given[1:], [[4, 4, 2], [2, 6], [0, 1], [3, 0], [1, 4], [1], [0], [2, 1]], call)

    def test_refused_back_and_again(self):
        calls = [("jn_start", 2), ("jn_want", 0, 1, 2), ("jn_back",)]
        calls += [("jn_back",), ("jn_state",), ("jn_again",), ("jn_again",), ("jn_state",), ("jn_told", 0)]
        self.assertEqual(ask(*calls)[3:], [[-2], [2, 0, 1], [0], [-2], [2, 1, 0], [1, 2]])

    def test_questions_make_no_change_and_take_nothing_away(self):
        for call in every_question(4):
            given = ask_with(WANTS, ("jn_back",), call, ("jn_state",), ("jn_again",), ("jn_told", 3))
            self.assertEqual(given[2:], [[4, 3, 1], [0], [1, 4]], call)


class AllAsItWas(unittest.TestCase):
    """By each of the calls that ask."""

    def test_one_change(self):
        asked = every_question(4)
        for change in CHANGES:
            given = ask_with(WANTS, *asked, change, *asked, ("jn_back",), *asked, ("jn_again",), *asked)
            size = len(asked)
            first, second, third, fourth = [given[k * (size + 1):k * (size + 1) + size] for k in range(4)]
            self.assertEqual(third, first, change)
            self.assertEqual(fourth, second, change)
            if change != ("jn_want", 1, 0, 1):
                self.assertNotEqual(second, first, change)

    def test_changes_of_all_kinds(self):
        moves = list(CHANGES[:7]) + [("jn_back",)] * 7 + [("jn_again",)] * 7
        asked = every_question(4)
        # A line each: one alone would have more calls than a line may.
        parts = [ask_with(WANTS, *moves[:k], *asked)[k:] for k in range(22)]
        self.assertEqual(parts[8:15], parts[6::-1])
        self.assertEqual(parts[15:], parts[1:8])

    def test_asked_between_all_of_them(self):
        moves = list(CHANGES[:7]) + [("jn_back",)] * 7 + [("jn_again",)] * 7
        for question in every_question(4):
            calls = [question]
            for move in moves:
                calls += [move, question]
            parts = ask_with(WANTS, *calls)[::2]
            self.assertEqual(parts[8:15], parts[6::-1], question)
            self.assertEqual(parts[15:], parts[1:8], question)
