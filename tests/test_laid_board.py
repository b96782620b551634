"""Promise 3 where letters lie on the board already; they are put there below the interface."""

import unittest

from helper import LETTER_FOLD, WORD_FOLD, as_bytes, fold_sign, game_with, score_on
from wordboard.laying import Laying, crossing_word


class Fits(unittest.TestCase):
    def test_right_before_and_behind(self):
        game = game_with("CAT SO OR", (7, 7, 0, "CAT"))
        for x, expected in ((3, -3), (4, -2), (10, -2), (11, -3)):
            self.assertEqual(score_on(game, x, 7, 0, "CAT", ""), expected, x)
        for y, expected in ((4, -3), (5, -2), (8, -2), (9, -3)):
            self.assertEqual(score_on(game, 7, y, 1, "SO", ""), expected, y)

    def test_at_the_edges_nothing_is_right_before_or_behind(self):
        # What lies at the other end of the board, or in the next row, is not beside the word.
        game = game_with("AB", (14, 0, 0, "X"), (14, 1, 0, "X"), (0, 2, 0, "X"), (0, 14, 0, "X"), (1, 14, 0, "X"))
        self.assertEqual(score_on(game, 0, 1, 0, "AB", ""), -3)
        self.assertEqual(score_on(game, 12, 13, 0, "AB", ""), -3)
        self.assertEqual(score_on(game, 13, 13, 0, "AB", ""), -3)
        self.assertEqual(score_on(game, 2, 0, 1, "AB", ""), -3)
        self.assertEqual(score_on(game, 2, 13, 1, "AB", ""), -3)
        game = game_with("AB", (0, 0, 0, "X"), (14, 14, 0, "X"), (0, 6, 0, "X"), (14, 4, 0, "X"))
        self.assertEqual(score_on(game, 13, 5, 0, "AB", ""), -3)
        self.assertEqual(score_on(game, 0, 5, 0, "AB", ""), -3)

    def test_the_very_same_letter(self):
        game = game_with("CAT", (7, 7, 0, "A"))
        self.assertEqual(score_on(game, 6, 7, 0, "CAT", "CT"), 5)
        self.assertEqual(score_on(game, 7, 6, 1, "CAT", "CT"), 5)
        self.assertEqual(score_on(game, 6, 7, 0, "CUT", "CUT"), -2)
        self.assertEqual(score_on(game, 6, 7, 0, "CaT", "C?T"), -2)
        game = game_with("CAT", (7, 7, 0, "a"))
        self.assertEqual(score_on(game, 6, 7, 0, "CaT", "CT"), 4)
        self.assertEqual(score_on(game, 6, 7, 0, "CAT", "CAT"), -2)

    def test_first_and_last_letter_have_to_be_the_same_too(self):
        game = game_with("CAT", (6, 7, 0, "C"))
        self.assertEqual(score_on(game, 6, 7, 0, "RAT", "RAT"), -2)
        game = game_with("CAT", (8, 7, 0, "T"))
        self.assertEqual(score_on(game, 6, 7, 0, "CAR", "CAR"), -2)

    def test_one_square_has_to_be_empty(self):
        game = game_with("CAT CA AT", (7, 7, 0, "CAT"))
        self.assertEqual(score_on(game, 7, 7, 0, "CAT", "CAT"), -2)
        self.assertEqual(score_on(game, 7, 7, 0, "CA", "CA"), -2)
        self.assertEqual(score_on(game, 8, 7, 0, "AT", "AT"), -2)


class FromRack(unittest.TestCase):
    def test_letters_on_the_board_take_nothing(self):
        game = game_with("CATS", (7, 7, 0, "CAT"))
        self.assertEqual(score_on(game, 7, 7, 0, "CATS", "S"), 6)
        self.assertEqual(score_on(game, 7, 7, 0, "CATs", "?"), 5)
        self.assertEqual(score_on(game, 7, 7, 0, "CATS", "CAT"), -3)
        self.assertEqual(score_on(game, 7, 7, 0, "CATS", ""), -3)

    def test_a_letter_laid_twice_beside_one_on_the_board(self):
        game = game_with("EVER", (7, 7, 0, "V"))
        self.assertEqual(score_on(game, 6, 7, 0, "EVER", "ER"), -3)
        self.assertEqual(score_on(game, 6, 7, 0, "EVER", "ERE"), 7)

    def test_the_rack_stays(self):
        game = game_with("CATS", (7, 7, 0, "CAT"))
        laying = Laying(7, 7, 0, as_bytes("CATS"), as_bytes("S?"))
        game.score(laying)
        self.assertEqual((laying.word, laying.rack), (as_bytes("CATS"), as_bytes("S?")))


class Touches(unittest.TestCase):
    def test_a_letter_on_the_board(self):
        game = game_with("CAT", (0, 0, 0, "C"))
        self.assertEqual(score_on(game, 0, 0, 0, "CAT", "AT"), 5)
        self.assertEqual(score_on(game, 0, 0, 1, "CAT", "AT"), 5)

    def test_a_crossing_word(self):
        # From 8 on the first letter is right under O: OA is no word that there is, OS is one.
        game = game_with("AT TO TA SO OS", (7, 7, 0, "SO"))
        self.assertEqual(score_on(game, 9, 8, 0, "AT", "AT"), -4)
        self.assertEqual(score_on(game, 8, 8, 0, "AT", "AT"), -5)
        self.assertEqual(score_on(game, 8, 8, 0, "SO", "SO"), 6)
        self.assertEqual(score_on(game, 6, 6, 0, "AT", "AT"), -5)
        self.assertEqual(score_on(game, 5, 6, 0, "AT", "AT"), -4)

    def test_corners_do_not_touch(self):
        game = game_with("SO", (7, 7, 0, "SO"))
        for x, y, down in ((5, 6, 0), (9, 6, 0), (5, 8, 0), (9, 8, 0), (6, 5, 1), (9, 5, 1), (6, 8, 1), (9, 8, 1)):
            self.assertEqual(score_on(game, x, y, down, "SO", "SO"), -4, (x, y, down))

    def test_the_middle_is_not_enough_on_a_board_with_letters(self):
        game = game_with("CAT", (0, 0, 0, "CAT"))
        self.assertEqual(score_on(game, 7, 7, 0, "CAT", "CAT"), -4)
        game = game_with("CAT", (14, 14, 0, "A"))
        self.assertEqual(score_on(game, 7, 7, 1, "CAT", "CAT"), -4)

    def test_the_middle_is_not_needed_on_a_board_with_letters(self):
        game = game_with("CATS", (0, 0, 0, "CAT"))
        self.assertEqual(score_on(game, 0, 0, 0, "CATS", "S"), 7)


class Crossings(unittest.TestCase):
    def crossing(self, game, x, y, down, text, place):
        return crossing_word(game.squares, Laying(x, y, down, as_bytes(text), []), place)

    def test_letters_before_and_behind(self):
        game = game_with("", (7, 3, 1, "CAR"), (7, 7, 1, "oT"))
        self.assertEqual(self.crossing(game, 6, 6, 0, "ORE", 1), as_bytes("CARRoT"))
        self.assertEqual(self.crossing(game, 6, 6, 0, "ORE", 0), [])
        self.assertEqual(self.crossing(game, 7, 2, 0, "SO", 0), as_bytes("SCAR"))
        self.assertEqual(self.crossing(game, 6, 9, 0, "AS", 1), as_bytes("oTS"))

    def test_the_other_way(self):
        game = game_with("", (3, 7, 0, "CAR"), (7, 7, 0, "oT"))
        self.assertEqual(self.crossing(game, 6, 6, 1, "ORE", 1), as_bytes("CARRoT"))
        self.assertEqual(self.crossing(game, 6, 6, 1, "ORE", 2), [])

    def test_up_to_the_edges(self):
        game = game_with("", (0, 0, 1, "ABCDEFG"), (0, 8, 1, "IJKLMNO"), (14, 0, 1, "X" * 15))
        self.assertEqual(self.crossing(game, 0, 7, 0, "HA", 0), as_bytes("ABCDEFGHIJKLMNO"))
        game = game_with("", (0, 0, 0, "ABCDEFG"), (8, 0, 0, "IJKLMNO"), (0, 1, 0, "X"))
        self.assertEqual(self.crossing(game, 7, 0, 1, "HA", 0), as_bytes("ABCDEFGHIJKLMNO"))

    def test_each_crossing_word_has_to_be_there(self):
        laid = (7, 7, 0, "SO")
        self.assertEqual(score_on(game_with("AT SA OT", laid), 7, 8, 0, "AT", "AT"), 8)
        self.assertEqual(score_on(game_with("AT SA", laid), 7, 8, 0, "AT", "AT"), -5)
        self.assertEqual(score_on(game_with("AT OT", laid), 7, 8, 0, "AT", "AT"), -5)
        self.assertEqual(score_on(game_with("SA OT", laid), 7, 8, 0, "AT", "AT"), -5)

    def test_cases_do_not_matter_to_a_crossing_word(self):
        game = game_with("at sa ot", (7, 7, 0, "sO"))
        self.assertEqual(score_on(game, 7, 8, 0, "At", "A?"), 3)

    def test_what_goes_through_a_letter_on_the_board_is_no_crossing_word(self):
        # CAT lies across; ACE goes down through its C, and CAT itself need not be a word that there is.
        game = game_with("ACE", (7, 7, 0, "CAT"))
        self.assertEqual(score_on(game, 7, 6, 1, "ACE", "AE"), 5)


class Counts(unittest.TestCase):
    def test_every_square_folds_as_told(self):
        for y in range(15):
            for x in range(15):
                sign = fold_sign(x, y)
                expected = (4 * LETTER_FOLD.get(sign, 1) + 1) * WORD_FOLD.get(sign, 1)
                for down in (0, 1):
                    self.assertEqual(self.beside_an_a(x, y, down), expected, (x, y, down))

    def beside_an_a(self, x, y, down):
        """What an H laid on x, y counts, with an A beside it that lies there already."""
        along = y if down else x
        if along < 14:
            game = game_with("HA", (x + 1 - down, y + down, 0, "A"))
            return score_on(game, x, y, down, "HA", "H")
        game = game_with("AH", (x - 1 + down, y - down, 0, "A"))
        return score_on(game, x - 1 + down, y - down, down, "AH", "H")

    def test_only_squares_laid_on_now_fold(self):
        self.assertEqual(score_on(game_with("CAT", (7, 7, 0, "AT")), 6, 7, 0, "CAT", "C"), 5)
        # H lies where letters are counted twice, E where they aren't.
        self.assertEqual(score_on(game_with("HE", (8, 8, 0, "H")), 8, 8, 0, "HE", "E"), 5)
        self.assertEqual(score_on(game_with("HE", (9, 8, 0, "E")), 8, 8, 0, "HE", "H"), 9)

    def test_folds_of_words_are_multiplied(self):
        # From corner to middle of the edge: two squares that count words three times.
        game = game_with("SENORITA", (4, 0, 0, "R"))
        self.assertEqual(score_on(game, 0, 0, 0, "SENORITA", "SENOITA"), (8 + 1) * 9 + 50)
        game = game_with("SENORITA", (3, 0, 0, "O"))
        self.assertEqual(score_on(game, 0, 0, 0, "SENORITA", "SENRITA"), 8 * 9 + 50)
        game = game_with("SENORITA", (0, 3, 0, "O"), (0, 4, 0, "R"))
        self.assertEqual(score_on(game, 0, 0, 1, "SENORITA", "SENITAZ"), 8 * 9)
        # One square that counts words twice, then two of them.
        game = game_with("TOTAL", (5, 4, 0, "O"))
        self.assertEqual(score_on(game, 4, 4, 0, "TOTAL", "TTAL"), 5 * 2)
        game = game_with("SENORITA", (5, 4, 0, "E"), (6, 4, 0, "N"))
        self.assertEqual(score_on(game, 4, 4, 0, "SENORITA", "SORITA"), 8 * 4)

    def test_three_words_three_times(self):
        game = game_with("ABCDEFGHIJKLMNO", (1, 0, 0, "BCDEFG"), (8, 0, 0, "IJKLMN"))
        points = 1 + 3 + 3 + 2 + 1 + 4 + 2 + 4 + 1 + 8 + 5 + 1 + 3 + 1 + 1
        self.assertEqual(score_on(game, 0, 0, 0, "ABCDEFGHIJKLMNO", "AHO"), points * 27)

    def test_a_crossing_word_is_added(self):
        game = game_with("CATS SO", (6, 7, 0, "CAT"))
        self.assertEqual(score_on(game, 9, 7, 1, "SO", "SO"), 2 + 6)

    def test_words_folded_in_the_crossing_word_too(self):
        game = game_with("CATS SO", (11, 7, 0, "CAT"))
        self.assertEqual(score_on(game, 14, 7, 1, "SO", "SO"), 2 * 3 + 6 * 3)
        game = game_with("CATS SO", (7, 11, 1, "CAT"))
        self.assertEqual(score_on(game, 7, 14, 0, "SO", "SO"), 2 * 3 + 6 * 3)

    def test_a_crossing_word_has_the_folds_of_its_own_square_alone(self):
        # One square counts words twice: first the crossing word goes through it, then beside it.
        game = game_with("CATS SO", (1, 4, 0, "CAT"))
        self.assertEqual(score_on(game, 4, 4, 1, "SO", "SO"), 2 * 2 + 6 * 2)
        game = game_with("CATS OS", (1, 5, 0, "CAT"))
        self.assertEqual(score_on(game, 4, 4, 1, "OS", "SO"), 2 * 2 + 6)

    def test_letters_folded_in_the_crossing_word_too(self):
        game = game_with("CAT TO", (6, 8, 0, "CA"))
        self.assertEqual(score_on(game, 8, 8, 1, "TO", "TO"), (2 + 1) + (3 + 1 + 2))

    def test_old_letters_of_a_crossing_word_are_not_folded(self):
        # A lies where letters are counted twice, C where words are.
        game = game_with("HE AH", (8, 8, 0, "A"))
        self.assertEqual(score_on(game, 8, 9, 0, "HE", "HE"), (4 + 1 * 3) + (1 + 4))
        game = game_with("CH HE", (7, 7, 0, "C"))
        self.assertEqual(score_on(game, 7, 8, 0, "HE", "HE"), (4 + 2) + (3 + 4))

    def test_blanks_in_crossing_words(self):
        game = game_with("CATS SO", (6, 7, 0, "cAT"))
        self.assertEqual(score_on(game, 9, 7, 1, "SO", "SO"), 2 + 3)
        self.assertEqual(score_on(game, 9, 7, 1, "sO", "?O"), 1 + 2)

    def test_several_crossing_words(self):
        # MOO under HAT: HM, AO, TO; H 4, A 1, T 1; M on 1, 1 and O on 1, 1 are counted twice.
        game = game_with("MOO HM AO TO", (6, 7, 0, "HAT"))
        self.assertEqual(score_on(game, 6, 8, 0, "MOO", "MOO"), (6 + 1 + 2) + (4 + 6) + (1 + 1) + (1 + 2))

    def test_fifty_for_seven_laid_not_for_seven_letters(self):
        game = game_with("RETINAS", (7, 7, 0, "R"))
        self.assertEqual(score_on(game, 7, 7, 0, "RETINAS", "ETINAS"), 8)
        game = game_with("RETINAS", (13, 7, 0, "S"))
        self.assertEqual(score_on(game, 7, 7, 0, "RETINAS", "RETINAX"), 16)

    def test_fifty_is_not_folded_and_counted_once(self):
        # NO is a crossing word; A and E are counted twice.
        game = game_with("NASTIER NO", (1, 9, 0, "O"))
        self.assertEqual(score_on(game, 1, 8, 0, "NASTIER", "NASTIER"), (7 + 1 + 1) + 2 + 50)
        # The word and its crossing word are counted three times, the 50 are not.
        game = game_with("NASTIER NO", (0, 6, 0, "O"))
        self.assertEqual(score_on(game, 0, 7, 0, "NASTIER", "NASTIER"), -5)
        game = game_with("NASTIER ON", (0, 6, 0, "O"))
        self.assertEqual(score_on(game, 0, 7, 0, "NASTIER", "NASTIER"), (7 + 1) * 3 + 2 * 3 + 50)

    def test_a_word_of_fifteen_letters(self):
        game = game_with("ABCDEFGHIJKLMNO", (0, 7, 0, "ABCDEFGH"))
        points = 1 + 3 + 3 + 2 + 1 + 4 + 2 + 4 + 1 + 8 + 5 + 1 + 3 + 1 + 1
        self.assertEqual(score_on(game, 0, 7, 0, "ABCDEFGHIJKLMNO", "IJKLMNO"), (points + 1) * 3 + 50)


class NothingChanges(unittest.TestCase):
    def test_words_and_board_stay(self):
        game = game_with("CATS SO", (6, 7, 0, "CAT"))
        squares = list(game.squares)
        words = dict(game.words)
        expected = {8: (9, 7, 1, "SO", "SO"), -1: (9, 7, 2, "SO", "SO"), -2: (14, 7, 0, "SO", "SO"),
                    -3: (9, 7, 1, "SO", "S"), -4: (0, 0, 0, "SO", "SO"), -5: (6, 8, 0, "SO", "SO")}
        for answer, call in expected.items():
            self.assertEqual(score_on(game, *call), answer)
            self.assertEqual((game.squares, game.words), (squares, words))


class WhichComesFirst(unittest.TestCase):
    def test_on_a_board_with_letters(self):
        game = game_with("SO", (7, 7, 0, "CAT"))
        self.assertEqual(score_on(game, 7, 7, 0, "C?T", "a"), -1)
        self.assertEqual(score_on(game, 7, 7, 0, "CUT", ""), -2)
        self.assertEqual(score_on(game, 10, 7, 0, "QQ", ""), -2)
        self.assertEqual(score_on(game, 0, 0, 0, "QQ", ""), -3)
        self.assertEqual(score_on(game, 0, 0, 0, "QQ", "QQ"), -4)
        self.assertEqual(score_on(game, 7, 8, 0, "QQ", "QQ"), -5)

    def test_sizes_that_the_interface_does_not_let_through(self):
        game = game_with("AB")
        self.assertEqual(score_on(game, 0, 7, 0, "A" * 16, "A"), -1)
        self.assertEqual(score_on(game, 7, 7, 0, "AB", "ABCDEFGH"), -1)


if __name__ == "__main__":
    unittest.main()
