"""The interface: how calls and answers lie in their lists, and that nothing is kept or changed."""

import unittest

from treatyjoin.joining import answers

# Each of the calls once, by its number.
EACH = [0, 3, 1, 0, 2, 6, 2, 0, 3, 3, 4, 3, 5, 6, 7, 1, 8, 2, 2, 9, 2, 10, 7]
EACH += [11, 12, 4, 13, 0, 14, 1, 15, 16, 0, 17, 7, 18, 19, 20]

FAR = 4294967295

# How many numbers each call has behind its own.
GIVEN = [1, 3, 1, 1, 1, 0, 0, 1, 2, 1, 1, 0, 1, 1, 1, 0, 1, 1, 0, 0, 0]

# How many numbers it answers, if it isn't refused.
ANSWERED = [1, 2, 2, 2, 2, 2, 2, 2, 1, 1, 2, 2, 2, 2, 2, 2, 1, 1, 1, 1, 3]


class Interface(unittest.TestCase):
    def test_each_call_by_its_number(self):
        due = [1, 0]  # jn_start
        due += [2, 0, 0]  # jn_want
        due += [2, 2, 6]  # jn_told
        due += [2, 0, 1]  # jn_holds
        due += [2, 0, 3]  # jn_closed
        due += [2, 3, 7]  # jn_greatest
        due += [2, 3, 7]  # jn_least
        due += [2, 3, 7]  # jn_with
        due += [1, 1]  # jn_round
        due += [1, 2]  # jn_rounds
        due += [2, 0, 0]  # jn_first
        due += [2, 5, 1]  # jn_many: 0, 2, 4, 6 and 7
        due += [2, 3, 7]  # jn_nth
        due += [2, 3, 7]  # jn_around
        due += [2, 1, 4]  # jn_refuses
        due += [2, 1, 1]  # jn_key
        due += [1, 1]  # jn_easier
        due += [1, 1]  # jn_pledge
        due += [1, 2]  # jn_back
        due += [1, 0]  # jn_again
        due += [3, 3, 3, 0]  # jn_state
        self.assertEqual(answers(EACH), due)

    def test_a_refusal_is_its_number_alone(self):
        calls = [0, 0, 0, 2, 1, 2, 0, 0, 1, 0, 3, 0, 2, 9, 3, 4, 4, 4, 7, 4, 8, 0, 2, 8, 4, 0, 9, 4, 10, 4]
        due = [1, -22, 1, 0, 1, -2, 1, -22, 1, -2, 1, -22, 1, -22, 1, -22, 1, -2, 1, -22, 1, -22, 1, -22]
        self.assertEqual(answers(calls), due)
        calls = [0, 2, 12, 4, 13, 2, 14, 2, 16, 2, 16, 0, 17, 4, 17, 3, 18, 19, 1, 0, 2, 0, 1, 1, 2, 0, 13, 0, 15]
        due = [1, 0, 1, -33, 1, -2, 1, -2, 1, -2, 1, -33, 1, -22, 1, -17, 1, -2, 1, -2, 2, 0, 0, 2, 0, 0, 1, -33, 1, -33]
        self.assertEqual(answers(calls), due)

    def test_the_widest_numbers_are_refused(self):
        for number, count in enumerate(GIVEN):
            if count > 0:
                given = answers([0, 8, number] + [FAR] * count)
                self.assertEqual(given[:3], [1, 0, 1], number)
                self.assertLess(given[3], 0, number)

    def test_whole_numbers_in_a_list(self):
        given = answers(EACH)
        self.assertIs(type(given), list)
        for number in given:
            self.assertIs(type(number), int)

    def test_what_is_handed_in_is_not_changed(self):
        calls = list(EACH)
        answers(calls)
        self.assertEqual(calls, EACH)
        self.assertIsNot(answers(calls), calls)

    def test_nothing_is_kept(self):
        first = answers(EACH)
        kept = list(first)
        self.assertEqual(answers(EACH), kept)
        first.append(5)
        self.assertEqual(answers(EACH), kept)
        self.assertEqual(answers([0, 3, 2, 0]), [1, 0, 2, 0, 0])

    def check_a_thousand(self, calls, number, given, due):
        """1000 calls: those, and the call with the given numbers as often as there's room."""
        room = 1000 - 9
        self.assertEqual(len(given), GIVEN[number])
        answered = answers(calls + ([number] + given) * room)
        # assertEqual would search such long lists for their differences for minutes.
        self.assertTrue(answered == [1, 0] + [2, 0, 0] * 8 + ([len(due)] + due) * room, number)

    def test_a_thousand_calls_where_nobody_would_join(self):
        calls = [0, 8]
        for i in range(8):
            calls += [1, i, 8, 0]
        self.check_a_thousand(calls, 10, [255], [8, 255])
        self.check_a_thousand(calls, 11, [], [1, 1])
        self.check_a_thousand(calls, 13, [7], [-33])
        self.check_a_thousand(calls, 15, [], [-33])

    def test_a_thousand_calls_where_one_joins_a_round(self):
        calls = [0, 8]
        for i in range(8):
            calls += [1, i, i, 0]
        asked = [
            (2, [7], [7, 0]),
            (3, [255], [1, 0]),
            (4, [0], [0, 1]),
            (5, [], [8, 255]),
            (6, [], [8, 255]),
            (7, [0], [8, 255]),
            (8, [0, 7], [8]),
            (9, [0], [8]),
            (10, [255], [0, 0]),
            (11, [], [9, 1]),
            (12, [8], [8, 255]),
            (13, [7], [8, 255]),
            (14, [7], [7, 127]),
            (15, [], [0, 0]),
            (16, [0], [-33]),
            (17, [1], [-17]),
            (19, [], [-2]),
            (20, [], [8, 8, 0]),
        ]
        for number, given, due in asked:
            self.check_a_thousand(calls, number, given, due)

    def test_a_thousand_starts_backs_and_agains(self):
        self.assertTrue(answers([0, 8] * 1000) == [1, 0] * 1000)
        self.assertTrue(answers([0, 9] * 999 + [0, 1]) == [1, -22] * 999 + [1, 0])
        self.assertTrue(answers([0, 8, 1, 0, 8, 0] + [18, 19] * 499) == [1, 0, 2, 0, 0] + [1, 0, 1, 0] * 499)
        self.assertTrue(answers([0, 8] + [18] * 999) == [1, 0] + [1, -2] * 999)

    def test_a_thousand_changes(self):
        # 333 times a want, one fewer, and a pledge.
        calls = [0, 8] + [1, 7, 8, 127, 16, 7, 17, 255] * 333
        self.assertTrue(answers(calls) == [1, 0] + [2, 0, 0, 1, 7, 1, 1] * 333)

    def test_a_thousand_calls_of_all_kinds(self):
        calls = [0, 8]
        for i in range(8):
            calls += [1, i, i, 0]
        made = 9
        kinds = []
        while made < 1000:
            number = 1 + made % 20
            calls += [number] + [made % 9] * GIVEN[number]
            kinds.append(number)
            made += 1
        answered = answers(calls)
        at = 2 + 8 * 3
        for number in kinds:
            count = answered[at]
            if answered[at + 1] < 0:
                self.assertEqual(count, 1)
            else:
                self.assertEqual(count, ANSWERED[number])
            self.assertGreaterEqual(min(answered[at + 2:at + 1 + count], default=0), 0)
            at += 1 + count
        self.assertEqual(at, len(answered))
        self.assertTrue(answers(calls) == answered)

    def test_as_long_a_list_as_may_be(self):
        # 1000 calls, nearly 4000 numbers.
        calls = [0, 8]
        for k in range(999):
            calls += [1, k % 8, k % 9, 0]
        given = answers(calls)
        self.assertEqual(len(given), 2 + 999 * 3)
        self.assertEqual(given[-3:], [2, (998 - 8) % 9, 0])
