"""Promise 6: wg_board."""

import unittest

from helper import ask_parts, best, board, clear, play, score, told_board, word
from wordboard.board import answers
from wordboard.game import Game


class Board(unittest.TestCase):
    def test_empty(self):
        self.assertEqual(answers([1, 6]), [1, 0, 226, 0] + [46] * 225)

    def test_written_out(self):
        calls = clear() + word("CAT") + word("TO") + play(6, 7, 0, "CaT", "C?T") + play(8, 7, 1, "To", "?") + board()
        squares = [46] * 225
        squares[7 * 15 + 6] = 67
        squares[7 * 15 + 7] = 97
        squares[7 * 15 + 8] = 84
        squares[8 * 15 + 8] = 111
        self.assertEqual(answers(calls), [1, 0, 1, 1, 1, 1, 1, 8, 1, 1, 226, 0] + squares)

    def test_row_by_row_up_to_the_edges(self):
        given = ask_parts(word("BCDEFGH"), word("ABCDEFGH"), word("AB"), play(1, 7, 0, "BCDEFGH", "BCDEFGH"),
                          play(0, 7, 0, "ABCDEFGH", "A"), play(0, 7, 1, "AB", "B"), board())
        self.assertTrue(all(part[0] > 0 for part in given[:6]), given)
        self.assertEqual(given[6], told_board((0, 7, 0, "ABCDEFGH"), (0, 8, 0, "B")))

    def test_after_plays_across_and_down_and_clear(self):
        given = ask_parts(word("AB"), word("BA"), play(7, 7, 1, "AB", "AB"), board(), play(7, 8, 0, "BA", "A"), board(),
                          clear(), board(), word("AB"), board())
        self.assertEqual(given[3], told_board((7, 7, 1, "AB")))
        self.assertEqual(given[5], told_board((7, 7, 1, "AB"), (7, 8, 0, "BA")))
        self.assertEqual(given[7], told_board())
        self.assertEqual(given[9], told_board())

    def test_other_calls_change_nothing(self):
        calls = [word("CAT"), score(7, 7, 0, "CAT", "CAT"), best("CAT"), best("Q"), best("a"), word("A?"), word("CAT")]
        laid = play(7, 7, 0, "CAT", "CAT")
        for call in calls:
            given = ask_parts(word("CAT"), call, board(), laid, call, board())
            self.assertEqual((given[2], given[5]), (told_board(), told_board((7, 7, 0, "CAT"))), call)

    def test_what_is_given_back_is_a_copy(self):
        game = Game()
        shown = game.board_told()
        shown[1] = 65
        self.assertEqual(game.squares, [46] * 225)

    def test_many_in_one_line(self):
        self.assertEqual(answers([1] + [6] * 399), [1, 0] + ([226, 0] + [46] * 225) * 399)


if __name__ == "__main__":
    unittest.main()
