"""Promises 1 and 2: wg_clear and wg_word."""

import unittest

import helper
from helper import ask, clear, score, word
from wordboard.game import Game


def game_with_many(how_many):
    game = Game()
    for k in range(how_many):
        game.take_word([65 + k // 676, 65 + k // 26 % 26, 65 + k % 26])
    return game


class Clear(unittest.TestCase):
    def test_answers_0_each_time(self):
        self.assertEqual(ask(clear(), word("AB"), clear()), [0, 1, 0])

    def test_words_are_gone(self):
        self.assertEqual(ask(word("AB"), word("AB"), clear(), word("AB")), [1, 0, 0, 1])
        play = score(7, 7, 0, "AB", "AB")
        self.assertEqual(ask(word("AB"), play, clear(), play), [1, 8, 0, -5])

    def test_board_is_empty(self):
        game = helper.game_with("AB", (7, 7, 0, "AB"))
        self.assertEqual(game.start_over(), 0)
        self.assertEqual(game.squares, [46] * 225)
        self.assertEqual(game.words, {})

    def test_a_new_game_is_clear(self):
        self.assertEqual(Game().squares, [46] * 225)
        self.assertEqual(Game().words, {})


class Word(unittest.TestCase):
    def test_new_then_there(self):
        self.assertEqual(ask(word("CAT"), word("DOG"), word("CAT"), word("DOG")), [1, 1, 0, 0])

    def test_cases_do_not_matter(self):
        self.assertEqual(ask(word("cAt"), word("CAT"), word("cat"), word("CaT")), [1, 0, 0, 0])
        self.assertEqual(ask(word("AZ"), word("az")), [1, 0])

    def test_other_words_are_new(self):
        self.assertEqual(ask(word("CAT"), word("CATS"), word("CA"), word("AT"), word("TAC")), [1] * 5)

    def test_lengths(self):
        self.assertEqual(ask(word("")), [-1])
        self.assertEqual(ask(word("A")), [-1])
        self.assertEqual(ask(word("AB")), [1])
        self.assertEqual(ask(word("ABCDEFGHIJKLMNO")), [1])
        self.assertEqual(ask(word("ABCDEFGHIJKLMNO"), word("abcdefghijklmno")), [1, 0])
        self.assertEqual(Game().take_word([65] * 16), -1)

    def test_bytes_that_are_no_letters(self):
        for byte in (0, 32, 46, 48, 63, 64, 91, 95, 96, 123, 128, 192, 255):
            self.assertEqual(ask(word([byte, 65])), [-1], byte)
            self.assertEqual(ask(word([65, byte])), [-1], byte)
            self.assertEqual(ask(word([65] * 14 + [byte])), [-1], byte)

    def test_bytes_that_are_letters(self):
        for byte in list(range(65, 91)) + list(range(97, 123)):
            self.assertEqual(ask(word([byte, byte])), [1], byte)

    def test_every_byte(self):
        good = [byte for byte in range(256) if ask(word([byte, 65])) == [1]]
        self.assertEqual(good, list(range(65, 91)) + list(range(97, 123)))

    def test_a_refused_word_is_not_there(self):
        self.assertEqual(ask(word("A?"), word("A?"), word("A"), word("A")), [-1] * 4)
        game = Game()
        game.take_word([65, 64])
        self.assertEqual(game.words, {})

    def test_4096_words(self):
        game = game_with_many(4095)
        self.assertEqual(len(game.words), 4095)
        self.assertEqual(game.take_word(helper.as_bytes("LAST")), 1)
        before = dict(game.words)
        self.assertEqual(game.take_word(helper.as_bytes("MORE")), -2)
        self.assertEqual(game.take_word(helper.as_bytes("MORE")), -2)
        self.assertEqual(game.words, before)

    def test_first_answer_where_more_would_be_right(self):
        game = game_with_many(4096)
        self.assertEqual(game.take_word(helper.as_bytes("aaa")), 0)
        self.assertEqual(game.take_word(helper.as_bytes("A")), -1)
        self.assertEqual(game.take_word(helper.as_bytes("A?A")), -1)

    def test_the_list_handed_in_stays(self):
        letters = helper.as_bytes("cat")
        Game().take_word(letters)
        self.assertEqual(letters, helper.as_bytes("cat"))


if __name__ == "__main__":
    unittest.main()
