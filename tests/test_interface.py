"""The interface: how calls are read and answers written."""

import unittest

import helper
from wordboard.board import answers

LOWEST = -2147483648
HIGHEST = 2147483647


class Interface(unittest.TestCase):
    def test_one_clear(self):
        self.assertEqual(answers([1]), [1, 0])

    def test_several_calls_written_out(self):
        calls = [1, 2, 2, 65, 66, 2, 2, 97, 98, 2, 0, 3, 7, 7, 0, 2, 65, 66, 2, 65, 66, 1, 2, 2, 65, 66]
        self.assertEqual(answers(calls), [1, 0, 1, 1, 1, 0, 1, -1, 1, 8, 1, 0, 1, 1])

    def test_empty_rows_take_one_number(self):
        calls = [1, 3, 7, 7, 0, 0, 0, 2, 0, 3, 7, 7, 0, 2, 65, 66, 0, 1]
        self.assertEqual(answers(calls), [1, 0, 1, -1, 1, -1, 1, -3, 1, 0])

    def test_refused_calls_are_read_to_their_end(self):
        calls = helper.clear() + helper.score(LOWEST, HIGHEST, LOWEST, [0] * 15, [255] * 7) + helper.word([1] * 15)
        self.assertEqual(answers(calls + helper.word("AB")), [1, 0, 1, -1, 1, -1, 1, 1])

    def test_all_six_written_out(self):
        calls = [1, 2, 2, 65, 66, 4, 7, 7, 0, 2, 97, 66, 2, 66, 63, 3, 7, 7, 1, 2, 97, 66, 1, 66, 5, 1, 66, 6, 1]
        squares = [46] * (7 * 15 + 7) + [97, 66] + [46] * (7 * 15 + 6)
        best = [20, 3, 7, 7, 1, 2, 97, 66] + [0] * 13
        self.assertEqual(answers(calls), [1, 0, 1, 1, 1, 6, 1, 3] + best + [226, 0] + squares + [1, 0])

    def test_refused_plays_and_bests_are_read_to_their_end(self):
        calls = helper.clear() + helper.play(LOWEST, HIGHEST, LOWEST, [6] * 15, [5] * 7) + helper.best([1] * 7)
        calls = calls + helper.play(7, 7, 0, [], []) + helper.best([]) + helper.word("AB")
        self.assertEqual(answers(calls), [1, 0, 1, -1, 1, -1, 1, -1, 1, -6, 1, 1])

    def test_what_is_handed_in_stays_with_all_six(self):
        calls = helper.clear() + helper.word("ab") + helper.best("B?") + helper.play(7, 7, 1, "aB", "B?A")
        calls = calls + helper.best("B?A") + helper.score(7, 7, 0, "aB", "B") + helper.board() + helper.clear()
        before = list(calls)
        answers(calls)
        self.assertEqual(calls, before)
        self.assertEqual({type(number) for number in calls}, {int})

    def test_nothing_is_kept_of_plays_and_bests(self):
        calls = helper.clear() + helper.word("AB") + helper.best("AB") + helper.play(7, 7, 0, "AB", "AB")
        calls = calls + helper.board()
        first = answers(calls)
        kept = list(first)
        fresh = answers(helper.clear() + helper.board() + helper.best("AB"))
        self.assertEqual(fresh, [1, 0, 226, 0] + [46] * 225 + [1, -6])
        second = answers(calls)
        self.assertEqual((first, second), (kept, kept))
        second[-1] = 65
        self.assertEqual(answers(calls), kept)

    def test_what_is_handed_in_stays(self):
        calls = helper.clear() + helper.word("ab") + helper.score(7, 7, 1, "aB", "B?A")
        before = list(calls)
        self.assertEqual(answers(calls), [1, 0, 1, 1, 1, 6])
        self.assertEqual(calls, before)

    def test_nothing_is_kept_from_one_time_to_the_next(self):
        calls = helper.clear() + helper.word("AB") + helper.score(7, 7, 0, "AB", "AB")
        first = answers(calls)
        kept = list(first)
        second = answers(calls)
        self.assertEqual(second, kept)
        self.assertEqual(first, kept)
        self.assertIsNot(first, second)
        self.assertEqual(answers([1] + helper.score(7, 7, 0, "AB", "AB")), [1, 0, 1, -5])

    def test_answers_are_whole_numbers(self):
        given = answers(helper.clear() + helper.word("AB") + helper.word("ab") + helper.score(7, 7, 0, "AB", "AB"))
        self.assertEqual([type(number) for number in given], [int] * 8)
        calls = helper.clear() + helper.word("AB") + helper.best("A?") + helper.play(7, 7, 1, "AB", "AB")
        given = answers(calls + helper.best("") + helper.board())
        self.assertEqual([type(number) for number in given], [int] * len(given))

    def test_four_hundred_calls(self):
        calls = helper.clear()
        for k in range(399):
            calls = calls + helper.word([65 + k // 26, 65 + k % 26])
        self.assertEqual(answers(calls), [1, 0] + [1, 1] * 399)


if __name__ == "__main__":
    unittest.main()
