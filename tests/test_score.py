"""Promise 3 on an empty board, through the interface: refusals, their order, and what is counted."""

import unittest

from helper import ask, score, score_first, word

LOWEST = -2147483648
HIGHEST = 2147483647


class NotProper(unittest.TestCase):
    def test_x(self):
        for x in (LOWEST, -2, -1, 15, 16, HIGHEST):
            self.assertEqual(score_first("AB", x, 7, 0, "AB", "AB"), -1, x)
            self.assertEqual(score_first("AB", x, 7, 1, "AB", "AB"), -1, x)
        for x in range(15):
            self.assertEqual(score_first("AB", x, 7, 0, "AB", "AB"), {6: 8, 7: 8, 14: -2}.get(x, -4), x)

    def test_y(self):
        for y in (LOWEST, -2, -1, 15, 16, HIGHEST):
            self.assertEqual(score_first("AB", 7, y, 0, "AB", "AB"), -1, y)
            self.assertEqual(score_first("AB", 7, y, 1, "AB", "AB"), -1, y)
        for y in range(15):
            self.assertEqual(score_first("AB", 7, y, 1, "AB", "AB"), {6: 8, 7: 8, 14: -2}.get(y, -4), y)

    def test_down(self):
        for down in (LOWEST, -1, 2, 3, HIGHEST):
            self.assertEqual(score_first("AB", 7, 7, down, "AB", "AB"), -1, down)
        for down in (0, 1):
            self.assertEqual(score_first("AB", 7, 7, down, "AB", "AB"), 8, down)

    def test_no_letters(self):
        self.assertEqual(score_first("AB", 7, 7, 0, "", "AB"), -1)

    def test_bytes_of_the_word(self):
        letters = list(range(65, 91)) + list(range(97, 123))
        for byte in range(256):
            good = byte in letters
            self.assertEqual(score_first("", 7, 7, 0, [byte], ""), -2 if good else -1, byte)
            self.assertEqual(score_first("", 7, 7, 0, [byte, 65], ""), -3 if good else -1, byte)
            self.assertEqual(score_first("", 7, 7, 0, [65, byte], ""), -3 if good else -1, byte)

    def test_bytes_of_the_rack(self):
        for byte in range(256):
            good = byte == 63 or 65 <= byte <= 90
            self.assertEqual(score_first("AB", 7, 7, 0, "AB", [65, 66, byte]), 8 if good else -1, byte)
            self.assertEqual(score_first("AB", 7, 7, 0, "AB", [byte, 65, 66]), 8 if good else -1, byte)

    def test_how_many_a_rack_has(self):
        self.assertEqual(score_first("AB", 7, 7, 0, "AB", ""), -3)
        self.assertEqual(score_first("AB", 7, 7, 0, "AB", "AB"), 8)
        self.assertEqual(score_first("AB", 7, 7, 0, "AB", "ZZZZZBA"), 8)
        self.assertEqual(score_first("AB", 7, 7, 0, "AB", "??????B"), -3)


class DoesNotFit(unittest.TestCase):
    def test_one_letter(self):
        self.assertEqual(score_first("AB", 7, 7, 0, "A", "A"), -2)
        self.assertEqual(score_first("AB", 7, 7, 1, "b", "?"), -2)

    def test_ends_on_the_last_square_or_beyond(self):
        for down in (0, 1):
            for length in range(2, 16):
                start = 15 - length
                text = "A" * length
                for first in range(start, 15):
                    x, y = (7, first) if down else (first, 7)
                    expected = -3 if first == start else -2
                    self.assertEqual(score_first("", x, y, down, text, ""), expected, (down, length, first))

    def test_across_does_not_go_on_in_the_next_row(self):
        self.assertEqual(score_first("ABCD", 14, 6, 0, "ABCD", "ABCD"), -2)
        self.assertEqual(score_first("ABCD", 6, 14, 1, "ABCD", "ABCD"), -2)

    def test_fifteen_letters_fill_a_row(self):
        self.assertEqual(score_first("", 0, 7, 0, "ABCDEFGHIJKLMNO", "ABCDEFG"), -3)
        self.assertEqual(score_first("", 1, 7, 0, "ABCDEFGHIJKLMNO", "ABCDEFG"), -2)


class NotFromRack(unittest.TestCase):
    def refused(self, text, rack):
        self.assertEqual(score_first(text, 7, 7, 0, text, rack), -3, (text, rack))

    def test_a_letter_is_missing(self):
        self.refused("CAT", "CA")
        self.refused("CAT", "CAX")
        self.refused("CAT", "")

    def test_a_letter_is_there_too_few_times(self):
        self.refused("ADD", "ADEFGH")
        self.assertEqual(score_first("ADD", 7, 7, 0, "ADD", "DAD"), 10)

    def test_a_small_letter_takes_a_blank_alone(self):
        self.refused("cAT", "CAT")
        self.refused("cat", "??CAT")
        self.assertEqual(score_first("CAT", 7, 7, 0, "cat", "???"), 0)

    def test_a_capital_does_not_take_a_blank(self):
        self.refused("CAT", "?AT")
        self.refused("CAT", "???")

    def test_order_on_the_rack_does_not_matter(self):
        for rack in ("CAT", "ACT", "TAC", "TXXXXCA"):
            self.assertEqual(score_first("CAT", 7, 7, 0, "CAT", rack), 10)


class DoesNotTouch(unittest.TestCase):
    def test_middle_is_covered_or_not(self):
        for first in range(0, 13):
            expected = 10 if 5 <= first <= 7 else -4
            self.assertEqual(score_first("CAT", first, 7, 0, "CAT", "CAT"), expected, first)
            self.assertEqual(score_first("CAT", 7, first, 1, "CAT", "CAT"), expected, first)

    def test_other_rows_and_columns(self):
        for other in (0, 6, 8, 14):
            self.assertEqual(score_first("CAT", 6, other, 0, "CAT", "CAT"), -4)
            self.assertEqual(score_first("CAT", other, 6, 1, "CAT", "CAT"), -4)
        self.assertEqual(score_first("CAT", 6, 7, 1, "CAT", "CAT"), -4)
        self.assertEqual(score_first("CAT", 7, 6, 0, "CAT", "CAT"), -4)


class NoSuchWord(unittest.TestCase):
    def test_no_words_and_others(self):
        self.assertEqual(score_first("", 7, 7, 0, "CAT", "CAT"), -5)
        self.assertEqual(score_first("CATS CA AT TAC", 7, 7, 0, "CAT", "CAT"), -5)

    def test_cases_do_not_matter(self):
        for known in ("CAT", "cat", "cAt"):
            self.assertEqual(score_first(known, 7, 7, 0, "CAT", "CAT"), 10)
            self.assertEqual(score_first(known, 7, 7, 0, "CaT", "C?T"), 8)


class WhichComesFirst(unittest.TestCase):
    def test_1_before_all(self):
        self.assertEqual(score_first("", 15, 7, 0, "AB", ""), -1)
        self.assertEqual(score_first("", 14, 0, 0, "AB", "a"), -1)
        self.assertEqual(score_first("", 14, 0, 0, "A?", ""), -1)
        self.assertEqual(score_first("", 14, 0, 2, "AB", ""), -1)
        self.assertEqual(score_first("", 0, 0, 0, "?", ""), -1)

    def test_2_before_3_4_5(self):
        self.assertEqual(score_first("", 14, 0, 0, "AB", ""), -2)
        self.assertEqual(score_first("", 0, 0, 0, "A", ""), -2)
        self.assertEqual(score_first("AB", 14, 0, 0, "AB", "AB"), -2)

    def test_3_before_4_5(self):
        self.assertEqual(score_first("", 0, 0, 0, "AB", "A"), -3)
        self.assertEqual(score_first("AB", 0, 0, 0, "AB", "A"), -3)
        self.assertEqual(score_first("", 7, 7, 0, "AB", "A"), -3)

    def test_4_before_5(self):
        self.assertEqual(score_first("", 0, 0, 0, "AB", "AB"), -4)


class Counts(unittest.TestCase):
    def test_each_letter(self):
        points = {1: "AEILNORSTU", 2: "DG", 3: "BCMP", 4: "FHVWY", 5: "K", 8: "JX", 10: "QZ"}
        self.assertEqual("".join(sorted("".join(points.values()))), "ABCDEFGHIJKLMNOPQRSTUVWXYZ")
        for count, letters in points.items():
            for letter in letters:
                text = letter + letter
                self.assertEqual(score_first(text, 7, 7, 0, text, text), 4 * count, letter)
                self.assertEqual(score_first(text, 7, 7, 1, text.lower(), "??"), 0, letter)
                self.assertEqual(score_first(text, 7, 7, 0, letter + letter.lower(), letter + "?"), 2 * count, letter)

    def test_letters_four_squares_from_the_middle(self):
        # H is counted twice, then all of it: (8 + 1 + 1 + 1 + 1) * 2.
        self.assertEqual(score_first("HORSE", 3, 7, 0, "HORSE", "HORSE"), 24)
        self.assertEqual(score_first("HORSE", 7, 3, 1, "HORSE", "HORSE"), 24)
        # Here E is the one counted twice.
        self.assertEqual(score_first("HORSE", 7, 7, 0, "HORSE", "HORSE"), 18)
        self.assertEqual(score_first("HORSE", 7, 7, 1, "HORSE", "HORSE"), 18)
        # And here none is.
        self.assertEqual(score_first("HORSE", 5, 7, 0, "HORSE", "HORSE"), 16)

    def test_a_blank_counts_0_where_it_is_folded(self):
        self.assertEqual(score_first("HORSE", 3, 7, 0, "hORSE", "?ORSE"), 8)

    def test_seven_letters_laid(self):
        # N is counted twice: (7 + 1) * 2 + 50.
        self.assertEqual(score_first("RETINAS", 7, 7, 0, "RETINAS", "RETINAS"), 66)
        self.assertEqual(score_first("RETINAS", 7, 7, 1, "RETINAS", "SANITER"), 66)
        self.assertEqual(score_first("RETINAS", 7, 7, 0, "retinas", "???????"), 50)

    def test_six_letters_laid_of_a_full_rack(self):
        self.assertEqual(score_first("RETINA", 7, 7, 0, "RETINA", "RETINAS"), 14)


class NothingChanges(unittest.TestCase):
    def test_a_score_lays_nothing(self):
        call = score(7, 7, 0, "CAT", "CAT")
        self.assertEqual(ask(word("CAT"), call, call, score(6, 7, 0, "CAT", "CAT"), call), [1, 10, 10, 10, 10])

    def test_a_refused_score_leaves_the_words(self):
        call = score(7, 7, 0, "CAT", "CAT")
        self.assertEqual(ask(call, call, word("CAT"), score(0, 0, 0, "CAT", "CAT"), call), [-5, -5, 1, -4, 10])


if __name__ == "__main__":
    unittest.main()
