"""The interface: how calls and answers lie in their lists, and that nothing is kept or changed."""

import unittest

from treatyjoin.joining import answers

# Each of the calls once, by its number.
EACH = [0, 3, 1, 0, 2, 6, 2, 0, 3, 3, 4, 3, 5, 6, 7, 1, 8, 2, 2, 9, 2, 10, 7]


class Interface(unittest.TestCase):
    def test_each_call_by_its_number(self):
        due = [1, 0]  # jn_start
        due += [2, 0, 0]  # jn_want
        due += [2, 2, 6]  # jn_told
        due += [2, 0, 1]  # jn_holds
        due += [2, 0, 3]  # jn_closed
        due += [2, 3, 7]  # jn_greatest
        due += [2, 3, 7]  # jn_least
        due += [2, 3, 7]  # jn_with
        due += [1, 1]  # jn_round
        due += [1, 2]  # jn_rounds
        due += [2, 0, 0]  # jn_first
        self.assertEqual(answers(EACH), due)

    def test_a_refusal_is_its_number_alone(self):
        calls = [0, 0, 0, 2, 1, 2, 0, 0, 1, 0, 3, 0, 2, 9, 3, 4, 4, 4, 7, 4, 8, 0, 2, 8, 4, 0, 9, 4, 10, 4]
        due = [1, -22, 1, 0, 1, -2, 1, -22, 1, -2, 1, -22, 1, -22, 1, -22, 1, -2, 1, -22, 1, -22, 1, -22]
        self.assertEqual(answers(calls), due)

    def test_whole_numbers_in_a_list(self):
        given = answers(EACH)
        self.assertIs(type(given), list)
        for number in given:
            self.assertIs(type(number), int)

    def test_what_is_handed_in_is_not_changed(self):
        calls = list(EACH)
        answers(calls)
        self.assertEqual(calls, EACH)
        self.assertIsNot(answers(calls), calls)

    def test_nothing_is_kept(self):
        first = answers(EACH)
        kept = list(first)
        self.assertEqual(answers(EACH), kept)
        first.append(5)
        self.assertEqual(answers(EACH), kept)
        self.assertEqual(answers([0, 3, 2, 0]), [1, 0, 2, 0, 0])

    def test_a_thousand_calls(self):
        calls = [0, 8]
        for i in range(8):
            calls += [1, i, 8, 0]
        calls += [10, 255] * 991
        given = answers(calls)
        # assertEqual would search such long lists for their differences for minutes.
        self.assertTrue(given == [1, 0] + [2, 0, 0] * 8 + [2, 8, 255] * 991)

    def test_as_long_a_list_as_may_be(self):
        # 1000 calls, nearly 4000 numbers.
        calls = [0, 8]
        for k in range(999):
            calls += [1, k % 8, k % 9, 0]
        given = answers(calls)
        self.assertEqual(len(given), 2 + 999 * 3)
        self.assertEqual(given[-3:], [2, (998 - 8) % 9, 0])
