"""Promise 4: wg_play, and that later calls count by the board as it is then."""

import unittest

from helper import ask, ask_parts, best, board, clear, play, score, told_best, told_board, word

LOWEST = -2147483648
HIGHEST = 2147483647


def words(text):
    return [word(known) for known in text.split()]


def after(known, *calls):
    """What the calls are answered, where these words are."""
    taken = words(known)
    return ask(*taken, *calls)[len(taken):]


class Refusals(unittest.TestCase):
    """Each refusal on an empty board and on one with letters, with all as it was behind it."""

    def refused(self, expected, *laying):
        taken = words("CATS SO CAT OX")
        laid = play(7, 7, 0, "CaT", "C?T")
        for before, shown in (([], told_board()), ([laid], told_board((7, 7, 0, "CaT")))):
            again = [word("CATS"), word("cat"), word("AX"), best("Q"), board()]
            given = ask_parts(*taken, *before, play(*laying), board(), *again)[len(taken) + len(before):]
            self.assertEqual(given, [[expected], shown, [0], [0], [1], [-6], shown], laying)

    def test_1(self):
        for x, y in ((-1, 7), (15, 7), (7, -1), (7, 15), (LOWEST, 0), (HIGHEST, 0), (0, LOWEST), (0, HIGHEST)):
            for down in (0, 1):
                self.refused(-1, x, y, down, "SO", "SO")
        for down in (-1, 2, LOWEST, HIGHEST):
            self.refused(-1, 7, 7, down, "SO", "SO")
        self.refused(-1, 7, 7, 0, "", "SO")
        for byte in (0, 46, 63, 64, 91, 96, 123, 255):
            self.refused(-1, 7, 7, 0, [83, byte], "SO")
        for byte in (0, 46, 62, 64, 91, 97, 115, 255):
            self.refused(-1, 7, 7, 0, "SO", [83, 79, byte])

    def test_2(self):
        self.refused(-2, 7, 7, 0, "S", "S")
        self.refused(-2, 14, 7, 0, "SO", "SO")
        self.refused(-2, 7, 14, 1, "SO", "SO")

    def test_3(self):
        self.refused(-3, 7, 8, 0, "SO", "S")
        self.refused(-3, 7, 8, 0, "sO", "SO")
        self.refused(-3, 5, 3, 1, "SO", "")

    def test_4(self):
        self.refused(-4, 0, 0, 0, "SO", "SO")
        self.refused(-4, 12, 3, 1, "SO", "SO")

    def test_5(self):
        given = ask_parts(word("SO"), play(7, 7, 0, "OS", "OS"), board(), word("OS"), board())
        self.assertEqual(given, [[1], [-5], told_board(), [1], told_board()])
        # CS, a crossing word, is none.
        given = ask_parts(*words("CAT SO"), play(7, 7, 0, "CAT", "CAT"), play(7, 8, 0, "SO", "SO"), board(), word("SO"))
        self.assertEqual(given[2:], [[10], [-5], told_board((7, 7, 0, "CAT")), [0]])

    def test_where_letters_lie(self):
        laid = [play(7, 7, 0, "CaT", "C?T")]
        for expected, laying in ((-2, (7, 7, 0, "CaT", "C?T")), (-2, (7, 7, 0, "CATS", "CATS")),
                                 (-2, (8, 7, 1, "AT", "AT")), (-2, (10, 7, 0, "SO", "SO")),
                                 (-3, (7, 7, 0, "CaTS", "CAT?")), (-3, (7, 7, 0, "CaTs", "S")),
                                 (-4, (5, 6, 0, "SO", "SO")), (-5, (7, 7, 0, "CaTO", "O"))):
            given = ask_parts(*words("CAT CATS SO AT"), *laid, play(*laying), board(), word("CATO"))
            self.assertEqual(given[5:], [[expected], told_board((7, 7, 0, "CaT")), [1]], laying)


class Lays(unittest.TestCase):
    def test_letters_are_on_the_board_as_told(self):
        given = ask_parts(word("cat"), play(6, 7, 0, "CaT", "TC?"), board())
        self.assertEqual(given[1:], [[8], told_board((6, 7, 0, "CaT"))])
        given = ask_parts(word("CAT"), play(7, 5, 1, "cAt", "??A"), board())
        self.assertEqual(given[1:], [[2], told_board((7, 5, 1, "cAt"))])

    def test_what_counts_0_is_laid_too(self):
        given = ask_parts(word("CAT"), play(7, 7, 0, "cat", "???"), board())
        self.assertEqual(given[1:], [[0], told_board((7, 7, 0, "cat"))])

    def test_over_letters_that_lie_there(self):
        calls = [play(7, 7, 0, "cAT", "?AT"), play(7, 7, 0, "cATs", "?"), play(8, 6, 1, "fAt", "??"), board()]
        given = ask_parts(*words("CAT CATS FAT"), *calls)
        self.assertEqual(given[3:], [[4], [2], [1], told_board((7, 7, 0, "cATs"), (8, 6, 1, "fAt"))])

    def test_at_the_edges(self):
        calls = [play(7, 7, 0, "ABCDEFG", "ABCDEFG"), play(7, 7, 0, "ABCDEFGH", "H"),
                 play(14, 7, 1, "HIJKLMNO", "IJKLMNO"), play(14, 6, 1, "AHIJKLMNO", "A"), board()]
        given = ask_parts(*words("ABCDEFG ABCDEFGH HIJKLMNO AHIJKLMNO"), *calls)
        self.assertEqual([part[0] for part in given[4:8]], [17 * 2 + 50, 60, (24 + 1) * 3 + 50, 25])
        self.assertEqual(given[8], told_board((7, 7, 0, "ABCDEFGH"), (14, 6, 1, "AHIJKLMNO")))

    def test_a_score_lays_nothing(self):
        given = ask_parts(word("CAT"), score(7, 7, 0, "CAT", "CAT"), board(), play(7, 7, 0, "CAT", "CAT"),
                          score(9, 7, 1, "TAC", "AC"), board())
        self.assertEqual(given[2:], [told_board(), [10], [-5], told_board((7, 7, 0, "CAT"))])

    def test_the_same_again(self):
        call = play(7, 7, 0, "CAT", "CAT")
        self.assertEqual(after("CAT", call, call, call), [10, -2, -2])


class CountsByThatBoard(unittest.TestCase):
    def both(self, known, before, laying, expected):
        """A score and then a play of the same are answered the same."""
        given = after(known, *before, score(*laying), play(*laying), score(*laying))
        self.assertEqual(given[len(before):], [expected, expected, -2], laying)

    def test_crossing_word_before(self):
        # SO goes down from behind CAT: CATS is the crossing word.
        self.both("CAT CATS SO", [play(6, 7, 0, "CAT", "CAT")], (9, 7, 1, "SO", "SO"), 2 + 6)
        self.both("CAT CATS SO", [play(7, 6, 1, "CAT", "CAT")], (7, 9, 0, "SO", "SO"), 2 + 6)

    def test_crossing_word_behind(self):
        # S on 5, 7 stands before CAT, O on 5, 8.
        self.both("CAT SCAT SO", [play(6, 7, 0, "CAT", "CAT")], (5, 7, 1, "SO", "SO"), 2 + 6)
        self.both("CAT SCAT SO", [play(7, 6, 1, "CAT", "CAT")], (7, 5, 0, "SO", "SO"), 2 + 6)

    def test_crossing_word_on_both_sides(self):
        # R is laid between O and E, the second E between D and N: ORE and DEN are the crossing words of ARE.
        known = "CAT COD TEN ARE ORE DEN"
        before = [play(6, 7, 0, "CAT", "CAT"), play(6, 7, 1, "COD", "OD"), play(8, 7, 1, "TEN", "EN")]
        self.assertEqual(after(known, *before), [10, 7, 4])
        self.both(known, before, (7, 7, 1, "ARE", "RE"), 3 + 3 + 4)
        before = [play(7, 6, 1, "CAT", "CAT"), play(7, 6, 0, "COD", "OD"), play(7, 8, 0, "TEN", "EN")]
        self.assertEqual(after(known, *before), [10, 7, 4])
        self.both(known, before, (7, 7, 0, "ARE", "RE"), 3 + 3 + 4)
        self.assertEqual(after("CAT COD TEN ARE ORE", *before, play(7, 7, 0, "ARE", "RE"))[-1], -5)

    def test_goes_on_from_letters_that_lie_there(self):
        self.both("CAT CATS", [play(7, 7, 0, "CAT", "CAT")], (7, 7, 0, "CATS", "S"), 6)
        self.both("CAT SCAT", [play(7, 7, 0, "CAT", "CAT")], (6, 7, 0, "SCAT", "S"), 6)
        self.both("CAT SCATS", [play(7, 7, 1, "CAT", "CAT")], (7, 6, 1, "SCATS", "SS"), 7)

    def test_a_fold_only_where_a_letter_is_laid_now(self):
        # H is counted twice in HE and in its crossing word TH; once when SHE is laid over it.
        before = [play(6, 7, 0, "CAT", "CAT")]
        self.both("CAT HE TH", before, (8, 8, 0, "HE", "HE"), (8 + 1) + (1 + 8))
        before = before + [play(8, 8, 0, "HE", "HE")]
        self.both("CAT HE TH SHE AS", before, (7, 8, 0, "SHE", "S"), 6 + 2)

    def test_a_blank_on_the_board_counts_0(self):
        before = [play(6, 7, 0, "cAT", "?AT")]
        self.both("CAT CATS SO", before, (9, 7, 1, "SO", "SO"), 2 + 3)
        self.both("CAT CATS SO", before, (9, 7, 1, "sO", "?O"), 1 + 2)
        self.both("CAT CATS SO", before, (6, 7, 0, "cATS", "S"), 3)
        self.both("CAT COD", before, (6, 7, 1, "cOD", "DO"), 2 + 2)

    def test_50_for_seven_laid(self):
        # C and G are counted twice.
        before = [play(7, 7, 0, "AB", "AB")]
        self.both("AB BCDEFGHI", before, (8, 7, 1, "BCDEFGHI", "CDEFGHI"), 25 + 50)
        self.both("AB BCDEFGH", before, (8, 7, 1, "BCDEFGH", "CDEFGHI"), 24)

    def test_touches_what_was_played(self):
        before = [play(7, 7, 0, "CAT", "CAT")]
        self.assertEqual(after("CAT", *before, play(5, 7, 1, "CAT", "CAT"))[-1], -4)
        self.assertEqual(after("CAT", *before, play(8, 6, 1, "CAT", "CT"))[-1], 6 + 1 + 2)

    def test_best_counts_by_that_board(self):
        given = ask_parts(*words("CAT CATS SO"), best("SO"), play(6, 7, 0, "CAT", "CAT"), best("SO"), best("S"))
        self.assertEqual(given[3:], [told_best(4, 6, 7, 0, "SO"), [10], told_best(8, 9, 7, 1, "SO"),
                                     told_best(6, 6, 7, 0, "CATS")])

    def test_what_best_tells_can_be_played(self):
        line = words("CAT CATS SO TO OAT")
        for rack in ("CA?SOTO", "S?OT", "TOOS", "A?"):
            told = ask_parts(*line, best(rack))[-1]
            x, y, down, length = told[1:5]
            line.append(play(x, y, down, told[5:5 + length], rack))
            self.assertEqual(ask_parts(*line)[-1], [told[0]], rack)

    def test_clear_between(self):
        call = play(7, 7, 0, "CAT", "CAT")
        given = ask_parts(word("CAT"), call, clear(), board(), call, word("CAT"), board(), call, call, board())
        self.assertEqual(given, [[1], [10], [0], told_board(), [-5], [1], told_board(), [10], [-2],
                                 told_board((7, 7, 0, "CAT"))])


if __name__ == "__main__":
    unittest.main()
