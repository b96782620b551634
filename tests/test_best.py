"""Promise 5: wg_best, by examples; test_against_plain.py compares it with a search over all layings."""

import unittest

from helper import as_bytes, ask_parts, best, best_on, board, clear, game_with, play, told_best, told_board, word
from wordboard.board import answers


def best_first(words, rack):
    """What best is answered on an empty board, where these words are."""
    return ask_parts(*[word(known) for known in words.split()], best(rack))[-1]


class NoRack(unittest.TestCase):
    def test_every_byte(self):
        for byte in range(256):
            good = byte == 63 or 65 <= byte <= 90
            for rack in ([byte], [byte, 65, 66], [65, 66, byte], [65] * 6 + [byte]):
                self.assertEqual(best_first("", rack), [-6] if good else [-1], rack)

    def test_before_what_could_be_laid(self):
        self.assertEqual(best_first("AB", "ABa"), [-1])
        self.assertEqual(best_first("AB", "ab"), [-1])
        self.assertEqual(best_first("AB", "AB."), [-1])

    def test_more_than_the_interface_lets_through(self):
        self.assertEqual(best_on(game_with("AB"), "ABCDEFGH"), [-1])
        self.assertEqual(best_on(game_with("AB"), "ABCDEFG"), told_best(8, 6, 7, 0, "AB"))


class NothingCanBeLaid(unittest.TestCase):
    def test_no_words(self):
        self.assertEqual(best_first("", "ABCDEFG"), [-6])
        self.assertEqual(best_first("", "???????"), [-6])

    def test_an_empty_rack(self):
        self.assertEqual(best_first("AB", ""), [-6])
        self.assertEqual(best_on(game_with("AB ABC", (7, 7, 0, "AB")), ""), [-6])

    def test_not_from_the_rack(self):
        self.assertEqual(best_first("AB BA", "A"), [-6])
        self.assertEqual(best_first("AA", "AB"), [-6])
        self.assertEqual(best_first("AAA", "A?B"), [-6])
        self.assertEqual(best_first("ABCDEFGH", "???????"), [-6])

    def test_no_place(self):
        # Through the one letter there is no room for the word, or another letter is in the way.
        self.assertEqual(best_on(game_with("CAB", (0, 0, 0, "A")), "CB"), [-6])
        self.assertEqual(best_on(game_with("AB", (7, 7, 0, "ABX"), (7, 8, 0, "X")), "B"), [-6])
        self.assertEqual(best_on(game_with("AB", (6, 7, 0, "XA"), (7, 6, 0, "X")), "B"), [-6])
        self.assertEqual(best_on(game_with("AB", (7, 7, 0, "A"), (9, 7, 0, "X"), (7, 9, 0, "X")), "B"), [-6])
        self.assertEqual(best_on(game_with("AX", *[(0, y, 0, "A" * 15) for y in range(15)]), "AX"), [-6])

    def test_the_word_that_lies_there_is_not_laid_again(self):
        self.assertEqual(best_on(game_with("AB", (7, 7, 0, "AB")), "XYZ"), [-6])
        self.assertEqual(best_on(game_with("AB", (7, 7, 1, "ab")), "XYZ"), [-6])

    def test_a_crossing_word_that_is_none(self):
        # CD right below AB makes AC and BD; each of these can be laid by itself too.
        laid = (7, 7, 0, "AB")
        self.assertEqual(best_on(game_with("CD", laid), "CD"), [-6])
        self.assertEqual(best_on(game_with("CD AC", laid), "CD"), told_best(4, 7, 7, 1, "AC"))
        self.assertEqual(best_on(game_with("CD BD", laid), "CD"), told_best(7, 8, 7, 1, "BD"))
        self.assertEqual(best_on(game_with("CD AC BD", laid), "CD"), told_best(7 + 4 + 7, 7, 8, 0, "CD"))

    def test_all_is_as_it_was(self):
        given = ask_parts(word("AB"), best(""), best("a"), best("XY"), word("AB"), board(), best("AB"), board())
        shown = told_board()
        self.assertEqual(given, [[1], [-6], [-1], [-6], [0], shown, told_best(8, 6, 7, 0, "AB"), shown])


class Told(unittest.TestCase):
    def test_written_out(self):
        calls = [1, 2, 2, 65, 66, 5, 2, 66, 65, 5, 0, 1, 5, 2, 66, 65]
        self.assertEqual(answers(calls), [1, 0, 1, 1, 20, 8, 6, 7, 0, 2, 65, 66] + [0] * 13 + [1, -6, 1, 0, 1, -6])

    def test_words_told_in_small_letters_are_laid_in_capitals(self):
        self.assertEqual(best_first("ab", "AB"), told_best(8, 6, 7, 0, "AB"))

    def test_fifteen_letters_leave_no_byte_0(self):
        game = game_with("ABCDEFGHIJKLMNO", (0, 7, 0, "ABCDEFGH"))
        expected = told_best((40 + 1) * 3 + 50, 0, 7, 0, "ABCDEFGHIJKLMNO")
        self.assertEqual(len(expected), 20)
        self.assertEqual(best_on(game, "ONMLKJI"), expected)
        game = game_with("ABCDEFGHIJKLMNO", (7, 0, 1, "ABCDEFGH"))
        self.assertEqual(best_on(game, "ONMLKJI"), told_best((40 + 1) * 3 + 50, 7, 0, 1, "ABCDEFGHIJKLMNO"))

    def test_the_rack_and_the_words_stay(self):
        game = game_with("CAB", (7, 7, 0, "A"))
        rack = as_bytes("B?C")
        words = dict(game.words)
        squares = list(game.squares)
        game.best_told(rack)
        self.assertEqual((rack, game.words, game.squares), (as_bytes("B?C"), words, squares))


class CountsTheMost(unittest.TestCase):
    def test_of_several_words(self):
        self.assertEqual(best_first("AB AX AQ", "ABXQ"), told_best(22, 6, 7, 0, "AQ"))
        self.assertEqual(best_first("AB ABS", "ABS"), told_best(10, 5, 7, 0, "ABS"))

    def test_of_several_places(self):
        # Only from 3 on H is counted twice.
        self.assertEqual(best_first("HORSE", "HORSE"), told_best(24, 3, 7, 0, "HORSE"))
        self.assertEqual(best_first("EROSH", "HORSE"), told_best(24, 7, 7, 0, "EROSH"))

    def test_a_full_rack_of_seven(self):
        self.assertEqual(best_first("RETINAS RETINA", "SANITER"), told_best(66, 1, 7, 0, "RETINAS"))
        self.assertEqual(best_first("RETINAS ZZZZZZ", "?ETINAS"), told_best(64, 1, 7, 0, "rETINAS"))
        self.assertEqual(best_first("RETINAS", "???????"), told_best(50, 1, 7, 0, "retinas"))

    def test_down_where_it_counts_more(self):
        # S behind CAT makes CATS too.
        game = game_with("CAT CATS SO", (6, 7, 0, "CAT"))
        self.assertEqual(best_on(game, "SO"), told_best(8, 9, 7, 1, "SO"))
        game = game_with("CAT CATS SO", (7, 6, 1, "CAT"))
        self.assertEqual(best_on(game, "SO"), told_best(8, 7, 9, 0, "SO"))

    def test_between_letters(self):
        game = game_with("ABCDE", (5, 7, 0, "A"), (7, 7, 0, "C"), (9, 7, 0, "E"))
        self.assertEqual(best_on(game, "BD"), told_best(10, 5, 7, 0, "ABCDE"))

    def test_crossing_words_on_both_sides(self):
        # R between O and E, E between D and N.
        laid = ((6, 7, 0, "CAT"), (6, 8, 1, "OD"), (8, 8, 1, "EN"))
        self.assertEqual(best_on(game_with("ARE ORE DEN", *laid), "RE"), told_best(10, 7, 7, 1, "ARE"))
        self.assertEqual(best_on(game_with("ARE DEN", *laid), "RE"), told_best(4, 6, 9, 0, "DEN"))
        self.assertEqual(best_on(game_with("ARE", *laid), "RE"), [-6])

    def test_over_letters_of_either_case(self):
        self.assertEqual(best_on(game_with("CATS", (6, 7, 0, "cAt")), "S"), told_best(2, 6, 7, 0, "cAtS"))
        self.assertEqual(best_on(game_with("CATS", (6, 7, 0, "CAT")), "S?"), told_best(6, 6, 7, 0, "CATS"))
        self.assertEqual(best_on(game_with("CATS", (6, 7, 0, "CaT")), "?"), told_best(4, 6, 7, 0, "CaTs"))
        self.assertEqual(best_on(game_with("CATS SO", (6, 7, 0, "cat")), "SO"), told_best(3, 9, 7, 1, "SO"))

    def test_up_to_the_corners(self):
        self.assertEqual(best_on(game_with("AB", (13, 14, 0, "A")), "B"), told_best(12, 13, 14, 0, "AB"))
        self.assertEqual(best_on(game_with("BA", (0, 1, 0, "A")), "B"), told_best(12, 0, 0, 1, "BA"))

    def test_nothing_lies_beyond_the_edges(self):
        # X at a row's end stands neither before nor behind what lies in the next row.
        game = game_with("AB", (14, 3, 0, "X"), (1, 4, 0, "B"))
        self.assertEqual(best_on(game, "A"), told_best(4, 0, 4, 0, "AB"))
        game = game_with("AB", (13, 3, 0, "A"), (0, 4, 0, "X"))
        self.assertEqual(best_on(game, "B"), told_best(1 + 6, 13, 3, 0, "AB"))


class AsMuch(unittest.TestCase):
    """Each step of the order among those that count as much."""

    def test_across_before_down(self):
        self.assertEqual(best_first("AB", "AB"), told_best(8, 6, 7, 0, "AB"))
        # Down from 9, 3 has the lesser y, and down to 4, 8 the lesser x.
        game = game_with("CA", (9, 4, 0, "A"))
        self.assertEqual(best_on(game, "C"), told_best(4, 8, 4, 0, "CA"))

    def test_the_least_y(self):
        game = game_with("CA", (7, 6, 1, "ABA"))
        self.assertEqual(best_on(game, "C"), told_best(7, 6, 6, 0, "CA"))
        # From 3, 9 on it counts as much, with the lesser x.
        game = game_with("CA", (9, 4, 0, "A"), (4, 9, 0, "A"))
        self.assertEqual(best_on(game, "C"), told_best(4, 8, 4, 0, "CA"))

    def test_the_least_y_down(self):
        # X bars the ways across.
        game = game_with("CA", (9, 5, 0, "AX"), (4, 10, 0, "AX"))
        self.assertEqual(best_on(game, "C"), told_best(4, 9, 4, 1, "CA"))

    def test_the_least_x(self):
        self.assertEqual(best_first("ABA", "ABA"), told_best(10, 5, 7, 0, "ABA"))
        game = game_with("CA", (6, 7, 0, "ABA"))
        self.assertEqual(best_on(game, "C"), told_best(7, 6, 6, 1, "CA"))

    def test_the_first_by_its_bytes(self):
        for words in ("AB AC", "AC AB", "BA AB", "CA BA AC AB"):
            self.assertEqual(best_first(words, "ABC"), told_best(8, 6, 7, 0, "AB"), words)

    def test_capitals_before_small_letters(self):
        # By the alphabet AB would come before BE.
        self.assertEqual(best_first("AB BE", "B?"), told_best(6, 6, 7, 0, "Be"))
        self.assertEqual(best_first("AZ ZY", "Z?"), told_best(20, 6, 7, 0, "Zy"))

    def test_the_beginning_of_another_first(self):
        for words in ("ABCD ABCDE", "ABCDE ABCD"):
            game = game_with(words, (1, 0, 0, "BCD"))
            self.assertEqual(best_on(game, "A?"), told_best(27, 0, 0, 0, "ABCD"), words)

    def test_the_order_of_words_and_rack_does_not_matter(self):
        expected = best_first("CAB ABC BAC", "ABC?")
        for words in ("ABC BAC CAB", "BAC CAB ABC"):
            for rack in ("?CBA", "B?AC"):
                self.assertEqual(best_first(words, rack), expected)


class Between(unittest.TestCase):
    def test_clear_between(self):
        calls = [word("AB"), best("AB"), play(7, 7, 0, "AB", "AB"), best("AB")]
        given = ask_parts(*calls, clear(), best("AB"), word("AB"), best("AB"))
        self.assertEqual(given[1], told_best(8, 6, 7, 0, "AB"))
        self.assertEqual(given[3], told_best(5 + 5, 8, 6, 0, "AB"))
        self.assertEqual(given[4:], [[0], [-6], [1], told_best(8, 6, 7, 0, "AB")])

    def test_words_that_come_later(self):
        given = ask_parts(best("ABQ"), word("AB"), best("ABQ"), word("AQ"), best("ABQ"), word("AB"), best("ABQ"))
        first = told_best(8, 6, 7, 0, "AB")
        later = told_best(22, 6, 7, 0, "AQ")
        self.assertEqual(given, [[-6], [1], first, [1], later, [0], later])


class Blanks(unittest.TestCase):
    def test_only_where_the_letter_is_missing(self):
        self.assertEqual(best_first("CAT", "CAT?"), told_best(10, 5, 7, 0, "CAT"))
        self.assertEqual(best_first("CAT", "C?T"), told_best(8, 5, 7, 0, "CaT"))
        self.assertEqual(best_first("CAT", "??T"), told_best(2, 5, 7, 0, "caT"))
        self.assertEqual(best_first("CAT", "???"), told_best(0, 5, 7, 0, "cat"))

    def test_the_last_of_two_equal_letters_that_count_as_much(self):
        self.assertEqual(best_first("AA", "A?"), told_best(2, 6, 7, 0, "Aa"))
        self.assertEqual(best_first("AAAA", "A?A?"), told_best(4, 4, 7, 0, "AAaa"))

    def test_the_one_that_counts_less(self):
        # From 7 on the last H is counted twice; from 3 on the first A would be.
        self.assertEqual(best_first("AHAAH", "AAAH?"), told_best(22, 7, 7, 0, "AhAAH"))
        self.assertEqual(best_first("HAAHA", "AAAH?"), told_best(22, 3, 7, 0, "HAAhA"))

    def test_the_one_that_has_a_crossing_word_counts_more(self):
        # The last H stands under A and makes AH: as a capital it is counted in both words.
        game = game_with("HEH AH", (7, 6, 0, "A"))
        self.assertEqual(best_on(game, "HE?"), told_best((1 + 4) * 2 + (1 + 4) * 2, 5, 7, 0, "hEH"))
        # Both stand under an A, but only the last where words are counted twice.
        game = game_with("HEH AH", (5, 6, 0, "A"), (7, 6, 0, "A"))
        self.assertEqual(best_on(game, "HE?"), told_best((1 + 4) * 2 + (1 + 0) + (1 + 4) * 2, 5, 7, 0, "hEH"))

    def test_two_letters_missing_and_one_twice(self):
        self.assertEqual(best_first("HAHA", "HA??"), told_best(10, 4, 7, 0, "HAha"))

    def test_many_blanks_on_a_board_with_letters(self):
        game = game_with("CATS", (6, 7, 0, "CAT"))
        self.assertEqual(best_on(game, "???????"), told_best(5, 6, 7, 0, "CATs"))


if __name__ == "__main__":
    unittest.main()
